/- The document's bytes of a good request (layer 29). -/
import Derived.Test.YtencgokpbfkeiaaEn
import Derived.Test.YtencgokpbfkeiaaCj
set_option linter.unusedVariables false
set_option linter.unusedSimpArgs false
namespace Go.Proofs.Ytencgokpbfkeiaa
open Go.ChangeShapes Go.WideShapes Go.ChangeAt Go.RowKit
/-- the document's bytes so far, in a row of its own that is not the numbers' -/
def Far2 (w wr : World) (g : Nat) (hd : Int) (L : List Int) (j : Nat) (A : Option Addr) (n c : Nat) : Prop := n ≤ 1 + 10 * j ∧ Row8 wr w.heap.size (.slice A n c) n (hd :: vints (L.take j)) ∧ Below w.heap.size w wr ∧ (Value.slice A n c).ownBlock ≠ some g
set_option maxRecDepth 100000 in
set_option maxHeartbeats 8000000 in
theorem renc_1 (r : Rq) (hk : r.k = 1) (hg : r.good = true) (hok : ROk r) (w : World) : Calls Try.prog 37 #[r.v] w fun e w' => ∃ A n c, e = .returned (.slice A n c) ∧ Reads w' w'.heap.size 1 A n (kv .u8 (enc r)) ∧ n ≤ 100 ∧ Below w.heap.size w w' := by
  have HM : Hid (Mem (fun _ => False) w [] w) := Lib.hid (Mem.start _ w)
  obtain ⟨L, hL⟩ : ∃ L, L = rnums r := ⟨_, rfl⟩
  obtain ⟨m, hm⟩ : ∃ m, m = L.length := ⟨_, rfl⟩
  have HN : Hid (∀ W, Calls Try.prog 68 #[.agg #[.int .i64 r.k, .int .i64 r.ck, .int .i64 r.pi, .int .i64 r.px, .int .i64 r.py, .int .i64 r.si, .int .i64 r.sl, .int .i64 r.sh, .int .i64 r.q.qk, .int .i64 r.q.b1, .int .i64 r.q.b2, .int .i64 r.q.b3, .int .i64 r.q.b4, .int .i64 r.q.w1, .int .i64 r.q.w2, .int .i64 r.q.w3, .int .i64 r.q.x, .int .i64 r.q.h]] W fun e w' => ∃ g, e = .returned (.slice (some ⟨g, 0, none⟩) m m) ∧ Blk w' g 3 (iv L).toArray ∧ W.heap.size ≤ g ∧ Below W.heap.size W w') := Lib.hid (fun W => by
    have h := rnums_any r hg W
    unfold NumP at h
    rw [hm, hL]
    exact h)
  have hr1 := rhead_in r hg
  obtain ⟨hd, hhd⟩ : ∃ hd, hd = rhead r := ⟨_, rfl⟩
  have hh2 : rhead r = r.ck := by unfold rhead; rw [if_neg (by omega)]
  have HE : Hid (enc r = hd :: vints L) := Lib.hid (by rw [hhd, hL]; rfl)
  have HOK : Hid (∀ z ∈ L, I64 z) := Lib.hid (by rw [hL]; exact hok)
  have HLN : Hid (m ≤ 4 ∧ m = L.length) := Lib.hid ⟨by rw [hm, hL]; exact rnums_len r, hm⟩
  have t0 : (r.k == 2) = false := by rw [hk]; decide
  have t1 : IntKind.u8.wrap r.ck = hd := by rw [IntKind.wrap_u8, ← hh2, ← hhd]; omega
  clear hr1 hhd hh2 hg hok hk hL hm
  unfold Rq.v
  go_enter Try.func37, Try.ntmps37
  go_upto_region 2 with (first | (with_reducible refine wpl_load (ty := 57) (fun K hK => ?_); refine wp_load_at _ _ rfl _ _ rfl ?_; refine LoadAt.row (n := 18) HM.out 0 rfl (by kernel_rfl) (by kernel_rfl) (Nat.le_of_ble_eq_true rfl) ?_; intro r hr; simp only [List.drop_zero, List.drop_succ_cons, List.take_zero, List.take_succ_cons, List.take_nil] at hr; subst hr; refine hK _ _ ?_; clear hK K; try simp only [Act.put, List.setIfInBounds_toArray, List.set_cons_zero, List.set_cons_succ]) | (with_reducible refine wpl_load (fun K hK => ?_); refine wp_load_at _ _ rfl _ _ rfl ?_; refine LoadAt.one HM.out 0 rfl (by kernel_rfl) (Nat.le_of_ble_eq_true rfl) ?_; intro v hv; simp only [List.getElem?_cons_zero, List.getElem?_cons_succ, Option.some.injEq] at hv; subst hv; refine hK _ _ ?_; clear hK K; try simp only [Act.put, List.setIfInBounds_toArray, List.set_cons_zero, List.set_cons_succ]) | (with_reducible refine wpl_store (ty := 57) (fun K hK => ?_); refine wp_store_at _ _ _ rfl _ _ rfl (.agg (List.toArray _)) rfl ?_; refine StoreAt.row HM.out 0 rfl (Nat.le_of_ble_eq_true rfl) (by kernel_rfl) rfl ?_; intro w9 new hnew hm; simp only [setAll, overlay] at hnew; subst hnew; simp only [List.set_cons_zero, List.set_cons_succ] at hm; clear HM; have HM := Lib.hid hm; clear hm; refine hK _ _ ?_; clear hK K; try simp only [Act.put, List.setIfInBounds_toArray, List.set_cons_zero, List.set_cons_succ]) | (with_reducible refine wpl_store (ty := 3) (fun K hK => ?_); refine wp_store_at _ _ _ rfl _ _ rfl (.int _ _) rfl ?_; refine StoreAt.one HM.out 0 rfl (Nat.le_of_ble_eq_true rfl) rfl (by kernel_rfl) rfl ?_; intro w9 new hnew hm; simp only [List.set_cons_zero, List.set_cons_succ] at hnew; subst hnew; simp only [List.set_cons_zero, List.set_cons_succ] at hm; clear HM; have HM := Lib.hid hm; clear hm; refine hK _ _ ?_; clear hK K; try simp only [Act.put, List.setIfInBounds_toArray, List.set_cons_zero, List.set_cons_succ]) | (with_reducible refine wpl_box (ty := 57) (fun K hK => ?_); refine wp_box_ma _ _ rfl HM.out _ rfl ?_; intro w9 kb9 hm; clear HM; have HM := Lib.hid hm; clear hm; refine hK _ _ ?_; clear hK K; try simp only [Act.put, List.setIfInBounds_toArray, List.set_cons_zero, List.set_cons_succ]) | (with_reducible refine wpl_box (ty := 3) (fun K hK => ?_); refine wp_box_m1 _ _ rfl HM.out (.int _ _) rfl rfl ?_; intro w9 kb9 hm; clear HM; have HM := Lib.hid hm; clear hm; refine hK _ _ ?_; clear hK K; try simp only [Act.put, List.setIfInBounds_toArray, List.set_cons_zero, List.set_cons_succ]) | fail)
  have hm := HM.out.new 5 [.int .u8 hd]
  have hrow : Row8 (w9.alloc (.cells #[.int .u8 hd] 5)) w.heap.size (.slice (some ⟨w9.heap.size, 0, none⟩) 1 1) 1 [hd] := World.ownsRow_lit (size := 1) (e := 5) w9 #[.int .u8 hd] 1 HM.out.only.size (by simp [maxLen]) rfl
  have HRW := Lib.hid hrow
  have HSZ : Hid ((w9.alloc (.cells #[.int .u8 hd] 5)).heap.size = w9.heap.size + 1) := Lib.hid (by simp)
  clear HM
  have HM := Lib.hid hm
  clear hm hrow
  go_wp2_with (first | (go_at_call 68; refine (HN.out _).mono ?_; rintro e wy ⟨g, rfl, hg2, hgs, hb2⟩) | (with_reducible refine wpl_load (ty := 57) (fun K hK => ?_); refine wp_load_at _ _ rfl _ _ rfl ?_; (first | refine LoadAt.row (n := 18) HM.out 0 rfl (by kernel_rfl) (by kernel_rfl) (Nat.le_of_ble_eq_true rfl) ?_ | refine LoadAt.row (n := 18) HM.out 1 rfl (by kernel_rfl) (by kernel_rfl) (Nat.le_of_ble_eq_true rfl) ?_ | refine LoadAt.row (n := 18) HM.out 2 rfl (by kernel_rfl) (by kernel_rfl) (Nat.le_of_ble_eq_true rfl) ?_); intro r hr; simp only [List.drop_zero, List.drop_succ_cons, List.take_zero, List.take_succ_cons, List.take_nil] at hr; subst hr; refine hK _ _ ?_; clear hK K; try simp only [Act.put, List.setIfInBounds_toArray, List.set_cons_zero, List.set_cons_succ]) | (with_reducible refine wpl_load (fun K hK => ?_); refine wp_load_at _ _ rfl _ _ rfl ?_; (first | refine LoadAt.one HM.out 0 rfl (by kernel_rfl) (Nat.le_of_ble_eq_true rfl) ?_ | refine LoadAt.one HM.out 1 rfl (by kernel_rfl) (Nat.le_of_ble_eq_true rfl) ?_ | refine LoadAt.one HM.out 2 rfl (by kernel_rfl) (Nat.le_of_ble_eq_true rfl) ?_); intro v hv; simp only [List.getElem?_cons_zero, List.getElem?_cons_succ, Option.some.injEq] at hv; subst hv; refine hK _ _ ?_; clear hK K; try simp only [Act.put, List.setIfInBounds_toArray, List.set_cons_zero, List.set_cons_succ]) | (with_reducible refine wpl_store (ty := 57) (fun K hK => ?_); refine wp_store_at _ _ _ rfl _ _ rfl (.agg (List.toArray _)) rfl ?_; (first | refine StoreAt.row HM.out 0 rfl (Nat.le_of_ble_eq_true rfl) (by kernel_rfl) rfl ?_ | refine StoreAt.row HM.out 1 rfl (Nat.le_of_ble_eq_true rfl) (by kernel_rfl) rfl ?_ | refine StoreAt.row HM.out 2 rfl (Nat.le_of_ble_eq_true rfl) (by kernel_rfl) rfl ?_); intro w9 new hnew hm; simp only [setAll, overlay] at hnew; subst hnew; simp only [List.set_cons_zero, List.set_cons_succ] at hm; clear HM; have HM := Lib.hid hm; clear hm; refine hK _ _ ?_; clear hK K; try simp only [Act.put, List.setIfInBounds_toArray, List.set_cons_zero, List.set_cons_succ]) | (with_reducible refine wpl_store (ty := 3) (fun K hK => ?_); refine wp_store_at _ _ _ rfl _ _ rfl (.int _ _) rfl ?_; (first | refine StoreAt.one HM.out 0 rfl (Nat.le_of_ble_eq_true rfl) rfl (by kernel_rfl) rfl ?_ | refine StoreAt.one HM.out 1 rfl (Nat.le_of_ble_eq_true rfl) rfl (by kernel_rfl) rfl ?_ | refine StoreAt.one HM.out 2 rfl (Nat.le_of_ble_eq_true rfl) rfl (by kernel_rfl) rfl ?_); intro w9 new hnew hm; simp only [List.set_cons_zero, List.set_cons_succ] at hnew; subst hnew; simp only [List.set_cons_zero, List.set_cons_succ] at hm; clear HM; have HM := Lib.hid hm; clear hm; refine hK _ _ ?_; clear hK K; try simp only [Act.put, List.setIfInBounds_toArray, List.set_cons_zero, List.set_cons_succ]) | (with_reducible refine wpl_box (ty := 57) (fun K hK => ?_); refine wp_box_ma _ _ rfl HM.out _ rfl ?_; intro w9 kb9 hm; clear HM; have HM := Lib.hid hm; clear hm; refine hK _ _ ?_; clear hK K; try simp only [Act.put, List.setIfInBounds_toArray, List.set_cons_zero, List.set_cons_succ]) | (with_reducible refine wpl_box (ty := 3) (fun K hK => ?_); refine wp_box_m1 _ _ rfl HM.out (.int _ _) rfl rfl ?_; intro w9 kb9 hm; clear HM; have HM := Lib.hid hm; clear hm; refine hK _ _ ?_; clear hK K; try simp only [Act.put, List.setIfInBounds_toArray, List.set_cons_zero, List.set_cons_succ]) | fail)
  have q4 : Hid (Far2 w wy g hd L 0 (some ⟨w9.heap.size, 0, none⟩) 1 1) := Lib.hid ⟨by omega, by
    have h := (Only.of_below0 hb2).own HRW.out (fun _ _ h => h)
    simpa [vints, Row8] using h, (HM.out.below hb2).to_below (fun _ _ h => h), by
    intro h
    have h1 := HSZ.out
    simp only [Value.ownBlock, Option.some.injEq] at h
    omega⟩
  have HG2 := Lib.hid hg2
  have HS0 : Hid (w9.heap.size = w9.heap.size) := Lib.hid rfl
  clear HM HRW HSZ hg2 hgs hb2
  generalize w9.heap.size = g0 at *
  go_wp2_with fail
  go_loopg [3, 5] m (fun k b i wr => ∃ (j : Nat) (A1 : Option Addr) (n1 c1 : Nat), j + k = m ∧ b = .slice A1 n1 c1 ∧ i = .int .i64 (j : Int) ∧ Hid (Far2 w wr g hd L j A1 n1 c1) ∧ Hid (Blk wr g 3 (iv L).toArray))
  case atStart => exact ⟨0, some ⟨g0, 0, none⟩, 1, 1, by omega, rfl, rfl, q4, HG2⟩
  case round =>
    clear q4 HG2
    obtain ⟨j, A1, n1, c1, hjk, rfl, rfl, hF, hB⟩ := hrel
    have HJ := Lib.hid hjk
    by_cases hlt : j < m
    · have t5 : decide ((j : Int) < (m : Int)) = true := by simp; omega
      have t6 : (j : Int) < (m : Int) := by omega
      have HJ2 := Lib.hid hlt
      have HW : Hid (wrap64 ((j : Int) + 1) = ((j + 1 : Nat) : Int)) := Lib.hid (by have := HLN.out; unfold wrap64; omega)
      obtain ⟨z, hz⟩ : ∃ z, z = L.getD j 0 := ⟨_, rfl⟩
      have pz : wr.cell? ⟨g, j, none⟩ = some (.int .i64 z) := by rw [hB.out.cell, hz]; simpa using iv_get (by have := HLN.out; omega)
      have hzi : I64 z := HOK.out z (by rw [hz, List.getD_eq_getElem?_getD, List.getElem?_eq_getElem (by have := HLN.out; omega)]; simp)
      have HZ := Lib.hid hz
      have HZI := Lib.hid hzi
      clear hjk hlt hz hzi
      go_wp2_with fail
      refine (rint_own w.heap.size A1 n1 c1 (hd :: vints (L.take j)) z wr hF.out.2.2.1.size hF.out.2.1 HZI.out (by have := hF.out.1; have := HLN.out; have := HJ2.out; omega)).mono ?_
      rintro e w5 ⟨A5, c5, rfl, hrow, how⟩
      have q5 : Hid (Far2 w w5 g hd L (j + 1) A5 (n1 + (vint z).length) c5) := Lib.hid ⟨by have := hF.out.1; have := vint_len HZI.out; omega, by
        rw [take_step L j (by have := HLN.out; have := HJ2.out; omega), ← HZ.out]
        simpa using hrow, hF.out.2.2.1.trans (how.1.below hF.out.2.2.1.size (fun i hi hs => by have := (hF.out.2.1.lt i hs.symm).1; omega)), by
        rcases how.2 with h | ⟨q, h, hq⟩
        · rw [h]; exact hF.out.2.2.2
        · rw [h]; intro e; cases e; have := hB.out.lt; omega⟩
      have q6 : Hid (Blk w5 g 3 (iv L).toArray) := Lib.hid (how.1.blk hB.out (fun h => hF.out.2.2.2 h.symm))
      clear hrow how pz
      generalize n1 + (vint z).length = n5 at *
      go_wp2_with fail
      go_roundg (gk - 1)
      case measure => have := HJ.out; have := HJ2.out; omega
      case rel => exact ⟨j + 1, A5, n5, c5, by have := HJ.out; have := HJ2.out; omega, rfl, by rw [HW.out], q5, q6⟩
    · have t5 : decide ((j : Int) < (m : Int)) = false := by simp; omega
      have t6 : ¬ (j : Int) < (m : Int) := by omega
      have e : L.take j = L := List.take_of_length_le (by have := HLN.out; omega)
      have q7 : Hid (Reads wr wr.heap.size 1 A1 n1 (kv .u8 (enc r))) := Lib.hid (by have h := row8_reads hF.out.2.1; rw [e] at h; rw [HE.out]; exact h)
      clear hjk hlt e
      go_wp2_with fail
      go_ret
      exact ⟨A1, n1, ⟨c1, rfl⟩, q7.out, by have := hF.out.1; have := HJ.out; have := HLN.out; omega, hF.out.2.2.1⟩
set_option maxRecDepth 100000 in
set_option maxHeartbeats 8000000 in
theorem renc_2 (r : Rq) (hk : r.k = 2) (hg : r.good = true) (hok : ROk r) (w : World) : Calls Try.prog 37 #[r.v] w fun e w' => ∃ A n c, e = .returned (.slice A n c) ∧ Reads w' w'.heap.size 1 A n (kv .u8 (enc r)) ∧ n ≤ 100 ∧ Below w.heap.size w w' := by
  have HM : Hid (Mem (fun _ => False) w [] w) := Lib.hid (Mem.start _ w)
  obtain ⟨L, hL⟩ : ∃ L, L = rnums r := ⟨_, rfl⟩
  obtain ⟨m, hm⟩ : ∃ m, m = L.length := ⟨_, rfl⟩
  have HN : Hid (∀ W, Calls Try.prog 68 #[.agg #[.int .i64 r.k, .int .i64 r.ck, .int .i64 r.pi, .int .i64 r.px, .int .i64 r.py, .int .i64 r.si, .int .i64 r.sl, .int .i64 r.sh, .int .i64 r.q.qk, .int .i64 r.q.b1, .int .i64 r.q.b2, .int .i64 r.q.b3, .int .i64 r.q.b4, .int .i64 r.q.w1, .int .i64 r.q.w2, .int .i64 r.q.w3, .int .i64 r.q.x, .int .i64 r.q.h]] W fun e w' => ∃ g, e = .returned (.slice (some ⟨g, 0, none⟩) m m) ∧ Blk w' g 3 (iv L).toArray ∧ W.heap.size ≤ g ∧ Below W.heap.size W w') := Lib.hid (fun W => by
    have h := rnums_any r hg W
    unfold NumP at h
    rw [hm, hL]
    exact h)
  have hr1 := rhead_in r hg
  obtain ⟨hd, hhd⟩ : ∃ hd, hd = rhead r := ⟨_, rfl⟩
  have hh2 : rhead r = 16 + r.q.qk := by unfold rhead; rw [if_pos hk]
  have HE : Hid (enc r = hd :: vints L) := Lib.hid (by rw [hhd, hL]; rfl)
  have HOK : Hid (∀ z ∈ L, I64 z) := Lib.hid (by rw [hL]; exact hok)
  have HLN : Hid (m ≤ 4 ∧ m = L.length) := Lib.hid ⟨by rw [hm, hL]; exact rnums_len r, hm⟩
  have t0 : (r.k == 2) = true := by rw [hk]; decide
  obtain ⟨jk, hjk0⟩ : ∃ jk, IntKind.u8.wrap r.ck = jk := ⟨_, rfl⟩
  have t1 : IntKind.i64.wrap (16 + r.q.qk) = 16 + r.q.qk := IntWalk.i64_in _ (by omega)
  have t2 : IntKind.u8.wrap (16 + r.q.qk) = hd := by rw [IntKind.wrap_u8, ← hh2, ← hhd]; omega
  clear hr1 hhd hh2 hg hok hk hL hm
  unfold Rq.v
  go_enter Try.func37, Try.ntmps37
  go_upto_region 2 with (first | (with_reducible refine wpl_load (ty := 57) (fun K hK => ?_); refine wp_load_at _ _ rfl _ _ rfl ?_; refine LoadAt.row (n := 18) HM.out 0 rfl (by kernel_rfl) (by kernel_rfl) (Nat.le_of_ble_eq_true rfl) ?_; intro r hr; simp only [List.drop_zero, List.drop_succ_cons, List.take_zero, List.take_succ_cons, List.take_nil] at hr; subst hr; refine hK _ _ ?_; clear hK K; try simp only [Act.put, List.setIfInBounds_toArray, List.set_cons_zero, List.set_cons_succ]) | (with_reducible refine wpl_load (fun K hK => ?_); refine wp_load_at _ _ rfl _ _ rfl ?_; refine LoadAt.one HM.out 0 rfl (by kernel_rfl) (Nat.le_of_ble_eq_true rfl) ?_; intro v hv; simp only [List.getElem?_cons_zero, List.getElem?_cons_succ, Option.some.injEq] at hv; subst hv; refine hK _ _ ?_; clear hK K; try simp only [Act.put, List.setIfInBounds_toArray, List.set_cons_zero, List.set_cons_succ]) | (with_reducible refine wpl_store (ty := 57) (fun K hK => ?_); refine wp_store_at _ _ _ rfl _ _ rfl (.agg (List.toArray _)) rfl ?_; refine StoreAt.row HM.out 0 rfl (Nat.le_of_ble_eq_true rfl) (by kernel_rfl) rfl ?_; intro w9 new hnew hm; simp only [setAll, overlay] at hnew; subst hnew; simp only [List.set_cons_zero, List.set_cons_succ] at hm; clear HM; have HM := Lib.hid hm; clear hm; refine hK _ _ ?_; clear hK K; try simp only [Act.put, List.setIfInBounds_toArray, List.set_cons_zero, List.set_cons_succ]) | (with_reducible refine wpl_store (ty := 3) (fun K hK => ?_); refine wp_store_at _ _ _ rfl _ _ rfl (.int _ _) rfl ?_; refine StoreAt.one HM.out 0 rfl (Nat.le_of_ble_eq_true rfl) rfl (by kernel_rfl) rfl ?_; intro w9 new hnew hm; simp only [List.set_cons_zero, List.set_cons_succ] at hnew; subst hnew; simp only [List.set_cons_zero, List.set_cons_succ] at hm; clear HM; have HM := Lib.hid hm; clear hm; refine hK _ _ ?_; clear hK K; try simp only [Act.put, List.setIfInBounds_toArray, List.set_cons_zero, List.set_cons_succ]) | (with_reducible refine wpl_box (ty := 57) (fun K hK => ?_); refine wp_box_ma _ _ rfl HM.out _ rfl ?_; intro w9 kb9 hm; clear HM; have HM := Lib.hid hm; clear hm; refine hK _ _ ?_; clear hK K; try simp only [Act.put, List.setIfInBounds_toArray, List.set_cons_zero, List.set_cons_succ]) | (with_reducible refine wpl_box (ty := 3) (fun K hK => ?_); refine wp_box_m1 _ _ rfl HM.out (.int _ _) rfl rfl ?_; intro w9 kb9 hm; clear HM; have HM := Lib.hid hm; clear hm; refine hK _ _ ?_; clear hK K; try simp only [Act.put, List.setIfInBounds_toArray, List.set_cons_zero, List.set_cons_succ]) | fail)
  have hm := HM.out.new 5 [.int .u8 jk]
  obtain ⟨W1, hW1⟩ : ∃ W1, W1 = w9.alloc (.cells [Value.int .u8 jk].toArray 5) := ⟨_, rfl⟩
  rw [← hW1] at hm
  have hW2 : W1 = w9.alloc (.cells #[.int .u8 jk] 5) := hW1
  rw [← hW2]
  clear HM hW1 hW2
  have HM := Lib.hid hm
  clear hm
  go_upto_region 4 with (first | (with_reducible refine wpl_load (ty := 57) (fun K hK => ?_); refine wp_load_at _ _ rfl _ _ rfl ?_; (first | refine LoadAt.row (n := 18) HM.out 0 rfl (by kernel_rfl) (by kernel_rfl) (Nat.le_of_ble_eq_true rfl) ?_ | refine LoadAt.row (n := 18) HM.out 1 rfl (by kernel_rfl) (by kernel_rfl) (Nat.le_of_ble_eq_true rfl) ?_ | refine LoadAt.row (n := 18) HM.out 2 rfl (by kernel_rfl) (by kernel_rfl) (Nat.le_of_ble_eq_true rfl) ?_); intro r hr; simp only [List.drop_zero, List.drop_succ_cons, List.take_zero, List.take_succ_cons, List.take_nil] at hr; subst hr; refine hK _ _ ?_; clear hK K; try simp only [Act.put, List.setIfInBounds_toArray, List.set_cons_zero, List.set_cons_succ]) | (with_reducible refine wpl_load (fun K hK => ?_); refine wp_load_at _ _ rfl _ _ rfl ?_; (first | refine LoadAt.one HM.out 0 rfl (by kernel_rfl) (Nat.le_of_ble_eq_true rfl) ?_ | refine LoadAt.one HM.out 1 rfl (by kernel_rfl) (Nat.le_of_ble_eq_true rfl) ?_ | refine LoadAt.one HM.out 2 rfl (by kernel_rfl) (Nat.le_of_ble_eq_true rfl) ?_); intro v hv; simp only [List.getElem?_cons_zero, List.getElem?_cons_succ, Option.some.injEq] at hv; subst hv; refine hK _ _ ?_; clear hK K; try simp only [Act.put, List.setIfInBounds_toArray, List.set_cons_zero, List.set_cons_succ]) | (with_reducible refine wpl_store (ty := 57) (fun K hK => ?_); refine wp_store_at _ _ _ rfl _ _ rfl (.agg (List.toArray _)) rfl ?_; (first | refine StoreAt.row HM.out 0 rfl (Nat.le_of_ble_eq_true rfl) (by kernel_rfl) rfl ?_ | refine StoreAt.row HM.out 1 rfl (Nat.le_of_ble_eq_true rfl) (by kernel_rfl) rfl ?_ | refine StoreAt.row HM.out 2 rfl (Nat.le_of_ble_eq_true rfl) (by kernel_rfl) rfl ?_); intro w9 new hnew hm; simp only [setAll, overlay] at hnew; subst hnew; simp only [List.set_cons_zero, List.set_cons_succ] at hm; clear HM; have HM := Lib.hid hm; clear hm; refine hK _ _ ?_; clear hK K; try simp only [Act.put, List.setIfInBounds_toArray, List.set_cons_zero, List.set_cons_succ]) | (with_reducible refine wpl_store (ty := 3) (fun K hK => ?_); refine wp_store_at _ _ _ rfl _ _ rfl (.int _ _) rfl ?_; (first | refine StoreAt.one HM.out 0 rfl (Nat.le_of_ble_eq_true rfl) rfl (by kernel_rfl) rfl ?_ | refine StoreAt.one HM.out 1 rfl (Nat.le_of_ble_eq_true rfl) rfl (by kernel_rfl) rfl ?_ | refine StoreAt.one HM.out 2 rfl (Nat.le_of_ble_eq_true rfl) rfl (by kernel_rfl) rfl ?_); intro w9 new hnew hm; simp only [List.set_cons_zero, List.set_cons_succ] at hnew; subst hnew; simp only [List.set_cons_zero, List.set_cons_succ] at hm; clear HM; have HM := Lib.hid hm; clear hm; refine hK _ _ ?_; clear hK K; try simp only [Act.put, List.setIfInBounds_toArray, List.set_cons_zero, List.set_cons_succ]) | (with_reducible refine wpl_box (ty := 57) (fun K hK => ?_); refine wp_box_ma _ _ rfl HM.out _ rfl ?_; intro w9 kb9 hm; clear HM; have HM := Lib.hid hm; clear hm; refine hK _ _ ?_; clear hK K; try simp only [Act.put, List.setIfInBounds_toArray, List.set_cons_zero, List.set_cons_succ]) | (with_reducible refine wpl_box (ty := 3) (fun K hK => ?_); refine wp_box_m1 _ _ rfl HM.out (.int _ _) rfl rfl ?_; intro w9 kb9 hm; clear HM; have HM := Lib.hid hm; clear hm; refine hK _ _ ?_; clear hK K; try simp only [Act.put, List.setIfInBounds_toArray, List.set_cons_zero, List.set_cons_succ]) | fail)
  have hm := HM.out.new 5 [.int .u8 hd]
  have hrow : Row8 (W1.alloc (.cells #[.int .u8 hd] 5)) w.heap.size (.slice (some ⟨W1.heap.size, 0, none⟩) 1 1) 1 [hd] := World.ownsRow_lit (size := 1) (e := 5) W1 #[.int .u8 hd] 1 HM.out.only.size (by simp [maxLen]) rfl
  have HRW := Lib.hid hrow
  have HSZ : Hid ((W1.alloc (.cells #[.int .u8 hd] 5)).heap.size = W1.heap.size + 1) := Lib.hid (by simp)
  clear HM
  have HM := Lib.hid hm
  clear hm hrow
  go_wp2_with (first | (go_at_call 68; refine (HN.out _).mono ?_; rintro e wy ⟨g, rfl, hg2, hgs, hb2⟩) | (with_reducible refine wpl_load (ty := 57) (fun K hK => ?_); refine wp_load_at _ _ rfl _ _ rfl ?_; (first | refine LoadAt.row (n := 18) HM.out 0 rfl (by kernel_rfl) (by kernel_rfl) (Nat.le_of_ble_eq_true rfl) ?_ | refine LoadAt.row (n := 18) HM.out 1 rfl (by kernel_rfl) (by kernel_rfl) (Nat.le_of_ble_eq_true rfl) ?_ | refine LoadAt.row (n := 18) HM.out 2 rfl (by kernel_rfl) (by kernel_rfl) (Nat.le_of_ble_eq_true rfl) ?_); intro r hr; simp only [List.drop_zero, List.drop_succ_cons, List.take_zero, List.take_succ_cons, List.take_nil] at hr; subst hr; refine hK _ _ ?_; clear hK K; try simp only [Act.put, List.setIfInBounds_toArray, List.set_cons_zero, List.set_cons_succ]) | (with_reducible refine wpl_load (fun K hK => ?_); refine wp_load_at _ _ rfl _ _ rfl ?_; (first | refine LoadAt.one HM.out 0 rfl (by kernel_rfl) (Nat.le_of_ble_eq_true rfl) ?_ | refine LoadAt.one HM.out 1 rfl (by kernel_rfl) (Nat.le_of_ble_eq_true rfl) ?_ | refine LoadAt.one HM.out 2 rfl (by kernel_rfl) (Nat.le_of_ble_eq_true rfl) ?_); intro v hv; simp only [List.getElem?_cons_zero, List.getElem?_cons_succ, Option.some.injEq] at hv; subst hv; refine hK _ _ ?_; clear hK K; try simp only [Act.put, List.setIfInBounds_toArray, List.set_cons_zero, List.set_cons_succ]) | (with_reducible refine wpl_store (ty := 57) (fun K hK => ?_); refine wp_store_at _ _ _ rfl _ _ rfl (.agg (List.toArray _)) rfl ?_; (first | refine StoreAt.row HM.out 0 rfl (Nat.le_of_ble_eq_true rfl) (by kernel_rfl) rfl ?_ | refine StoreAt.row HM.out 1 rfl (Nat.le_of_ble_eq_true rfl) (by kernel_rfl) rfl ?_ | refine StoreAt.row HM.out 2 rfl (Nat.le_of_ble_eq_true rfl) (by kernel_rfl) rfl ?_); intro w9 new hnew hm; simp only [setAll, overlay] at hnew; subst hnew; simp only [List.set_cons_zero, List.set_cons_succ] at hm; clear HM; have HM := Lib.hid hm; clear hm; refine hK _ _ ?_; clear hK K; try simp only [Act.put, List.setIfInBounds_toArray, List.set_cons_zero, List.set_cons_succ]) | (with_reducible refine wpl_store (ty := 3) (fun K hK => ?_); refine wp_store_at _ _ _ rfl _ _ rfl (.int _ _) rfl ?_; (first | refine StoreAt.one HM.out 0 rfl (Nat.le_of_ble_eq_true rfl) rfl (by kernel_rfl) rfl ?_ | refine StoreAt.one HM.out 1 rfl (Nat.le_of_ble_eq_true rfl) rfl (by kernel_rfl) rfl ?_ | refine StoreAt.one HM.out 2 rfl (Nat.le_of_ble_eq_true rfl) rfl (by kernel_rfl) rfl ?_); intro w9 new hnew hm; simp only [List.set_cons_zero, List.set_cons_succ] at hnew; subst hnew; simp only [List.set_cons_zero, List.set_cons_succ] at hm; clear HM; have HM := Lib.hid hm; clear hm; refine hK _ _ ?_; clear hK K; try simp only [Act.put, List.setIfInBounds_toArray, List.set_cons_zero, List.set_cons_succ]) | (with_reducible refine wpl_box (ty := 57) (fun K hK => ?_); refine wp_box_ma _ _ rfl HM.out _ rfl ?_; intro w9 kb9 hm; clear HM; have HM := Lib.hid hm; clear hm; refine hK _ _ ?_; clear hK K; try simp only [Act.put, List.setIfInBounds_toArray, List.set_cons_zero, List.set_cons_succ]) | (with_reducible refine wpl_box (ty := 3) (fun K hK => ?_); refine wp_box_m1 _ _ rfl HM.out (.int _ _) rfl rfl ?_; intro w9 kb9 hm; clear HM; have HM := Lib.hid hm; clear hm; refine hK _ _ ?_; clear hK K; try simp only [Act.put, List.setIfInBounds_toArray, List.set_cons_zero, List.set_cons_succ]) | fail)
  have q4 : Hid (Far2 w wy g hd L 0 (some ⟨W1.heap.size, 0, none⟩) 1 1) := Lib.hid ⟨by omega, by
    have h := (Only.of_below0 hb2).own HRW.out (fun _ _ h => h)
    simpa [vints, Row8] using h, (HM.out.below hb2).to_below (fun _ _ h => h), by
    intro h
    have h1 := HSZ.out
    simp only [Value.ownBlock, Option.some.injEq] at h
    omega⟩
  have HG2 := Lib.hid hg2
  have HS0 : Hid (W1.heap.size = W1.heap.size) := Lib.hid rfl
  clear HM HRW HSZ hg2 hgs hb2
  generalize W1.heap.size = g0 at *
  go_wp2_with fail
  go_loopg [3, 5] m (fun k b i wr => ∃ (j : Nat) (A1 : Option Addr) (n1 c1 : Nat), j + k = m ∧ b = .slice A1 n1 c1 ∧ i = .int .i64 (j : Int) ∧ Hid (Far2 w wr g hd L j A1 n1 c1) ∧ Hid (Blk wr g 3 (iv L).toArray))
  case atStart => exact ⟨0, some ⟨g0, 0, none⟩, 1, 1, by omega, rfl, rfl, q4, HG2⟩
  case round =>
    clear q4 HG2
    obtain ⟨j, A1, n1, c1, hjk, rfl, rfl, hF, hB⟩ := hrel
    have HJ := Lib.hid hjk
    by_cases hlt : j < m
    · have t5 : decide ((j : Int) < (m : Int)) = true := by simp; omega
      have t6 : (j : Int) < (m : Int) := by omega
      have HJ2 := Lib.hid hlt
      have HW : Hid (wrap64 ((j : Int) + 1) = ((j + 1 : Nat) : Int)) := Lib.hid (by have := HLN.out; unfold wrap64; omega)
      obtain ⟨z, hz⟩ : ∃ z, z = L.getD j 0 := ⟨_, rfl⟩
      have pz : wr.cell? ⟨g, j, none⟩ = some (.int .i64 z) := by rw [hB.out.cell, hz]; simpa using iv_get (by have := HLN.out; omega)
      have hzi : I64 z := HOK.out z (by rw [hz, List.getD_eq_getElem?_getD, List.getElem?_eq_getElem (by have := HLN.out; omega)]; simp)
      have HZ := Lib.hid hz
      have HZI := Lib.hid hzi
      clear hjk hlt hz hzi
      go_wp2_with fail
      refine (rint_own w.heap.size A1 n1 c1 (hd :: vints (L.take j)) z wr hF.out.2.2.1.size hF.out.2.1 HZI.out (by have := hF.out.1; have := HLN.out; have := HJ2.out; omega)).mono ?_
      rintro e w5 ⟨A5, c5, rfl, hrow, how⟩
      have q5 : Hid (Far2 w w5 g hd L (j + 1) A5 (n1 + (vint z).length) c5) := Lib.hid ⟨by have := hF.out.1; have := vint_len HZI.out; omega, by
        rw [take_step L j (by have := HLN.out; have := HJ2.out; omega), ← HZ.out]
        simpa using hrow, hF.out.2.2.1.trans (how.1.below hF.out.2.2.1.size (fun i hi hs => by have := (hF.out.2.1.lt i hs.symm).1; omega)), by
        rcases how.2 with h | ⟨q, h, hq⟩
        · rw [h]; exact hF.out.2.2.2
        · rw [h]; intro e; cases e; have := hB.out.lt; omega⟩
      have q6 : Hid (Blk w5 g 3 (iv L).toArray) := Lib.hid (how.1.blk hB.out (fun h => hF.out.2.2.2 h.symm))
      clear hrow how pz
      generalize n1 + (vint z).length = n5 at *
      go_wp2_with fail
      go_roundg (gk - 1)
      case measure => have := HJ.out; have := HJ2.out; omega
      case rel => exact ⟨j + 1, A5, n5, c5, by have := HJ.out; have := HJ2.out; omega, rfl, by rw [HW.out], q5, q6⟩
    · have t5 : decide ((j : Int) < (m : Int)) = false := by simp; omega
      have t6 : ¬ (j : Int) < (m : Int) := by omega
      have e : L.take j = L := List.take_of_length_le (by have := HLN.out; omega)
      have q7 : Hid (Reads wr wr.heap.size 1 A1 n1 (kv .u8 (enc r))) := Lib.hid (by have h := row8_reads hF.out.2.1; rw [e] at h; rw [HE.out]; exact h)
      clear hjk hlt e
      go_wp2_with fail
      go_ret
      exact ⟨A1, n1, ⟨c1, rfl⟩, q7.out, by have := hF.out.1; have := HJ.out; have := HLN.out; omega, hF.out.2.2.1⟩
theorem renc_any (r : Rq) (hg : r.good = true) (hok : ROk r) (w : World) : Calls Try.prog 37 #[r.v] w fun e w' => ∃ A n c, e = .returned (.slice A n c) ∧ Reads w' w'.heap.size 1 A n (kv .u8 (enc r)) ∧ n ≤ 100 ∧ Below w.heap.size w w' := by
  have h := hg
  simp only [Rq.good, decide_eq_true_eq] at h
  rcases h with h | h
  · exact renc_1 r h.1 hg hok w
  · exact renc_2 r h.1 hg hok w
end Go.Proofs.Ytencgokpbfkeiaa
