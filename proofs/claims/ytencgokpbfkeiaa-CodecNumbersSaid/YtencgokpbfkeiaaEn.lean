/- A request's bytes, by the code and by the document (layer 29). -/
import Derived.Test.YtencgokpbfkeiaaNm
import Derived.Test.YtencgokpbfkeiaaRd
import Derived.Test.YtencgokpbfkeiaaI1
import Derived.Test.YtencgokpbfkeiaaMv
import Derived.Deep.LoopGhost
set_option linter.unusedVariables false
set_option linter.unusedSimpArgs false
namespace Go.Proofs.Ytencgokpbfkeiaa
open Go.ChangeShapes Go.WideShapes Go.ChangeAt Go.RowKit
def I64 (v : Int) : Prop := -9223372036854775808 ≤ v ∧ v ≤ 9223372036854775807
/-- the first byte -/
def rhead (r : Rq) : Int := if r.k = 2 then 16 + r.q.qk else r.ck
/-- the bytes of some numbers, one behind the other -/
def vints : List Int → List Int
  | [] => []
  | z :: l => vint z ++ vints l
theorem vints_append (a b : List Int) : vints (a ++ b) = vints a ++ vints b := by
  induction a with
  | nil => rfl
  | cons z a ih => simp [vints, ih]
/-- a good request's bytes -/
def enc (r : Rq) : List Int := rhead r :: vints (rnums r)
def ROk (r : Rq) : Prop := ∀ z ∈ rnums r, I64 z
theorem rhead_in (r : Rq) (hg : r.good = true) : 1 ≤ rhead r ∧ rhead r ≤ 23 := by
  simp only [Rq.good, decide_eq_true_eq] at hg
  unfold rhead
  split <;> omega
theorem rnums_len (r : Rq) : (rnums r).length ≤ 4 := by
  unfold rnums qnums
  repeat' split
  all_goals simp
theorem vints_len (l : List Int) (h : ∀ z ∈ l, I64 z) : (vints l).length ≤ 10 * l.length := by
  induction l with
  | nil => simp [vints]
  | cons z l ih =>
    have h1 := vint_len (h z (by simp))
    have h2 := ih (fun x hx => h x (List.mem_cons_of_mem _ hx))
    simp only [vints, List.length_append, List.length_cons]
    omega
theorem take_step (l : List Int) (j : Nat) (h : j < l.length) : vints (l.take (j + 1)) = vints (l.take j) ++ vint (l.getD j 0) := by
  rw [List.take_add_one, vints_append, List.getElem?_eq_getElem h, List.getD_eq_getElem?_getD, List.getElem?_eq_getElem h]
  simp [vints]
theorem Reads.now {w : World} {B n F : Nat} {A : Option Addr} {xs : List Value} (h : Reads w B F A n xs) (hF : 0 < F) : Reads w w.heap.size F A n xs := by
  refine ⟨h.1, fun h0 => ?_⟩
  obtain ⟨ad, hA, hb, hc⟩ := h.2 h0
  refine ⟨ad, hA, ?_, hc⟩
  have hl : 0 < xs.length := by rw [h.1]; exact Nat.mul_pos h0 hF
  have := block_lt_of_cell (hc 0 _ (List.getElem?_eq_getElem hl))
  rwa [block_of_add] at this
theorem row8_reads {w : World} {base n c : Nat} {A : Option Addr} {l : List Int} (h : Row8 w base (.slice A n c) n l) : Reads w w.heap.size 1 A n (kv .u8 l) := Reads.of_own h
/-- the code's bytes of some numbers behind a head, so far -/
def Far (w wr : World) (hd : Int) (L : List Int) (j : Nat) (A : Option Addr) (n c : Nat) : Prop := n ≤ 1 + 10 * j ∧ Reads wr wr.heap.size 1 A n (kv .u8 (hd :: vints (L.take j))) ∧ Below w.heap.size w wr
set_option maxRecDepth 100000 in
set_option maxHeartbeats 8000000 in
theorem enc_no (r : Rq) (hg : r.good = false) (w : World) : Calls Try.prog 29 #[r.v] w fun e w' => e = .returned (.tuple #[.slice none 0 0, .int .i64 8]) ∧ Below w.heap.size w w' := by
  have HG : Hid (∀ W, Calls Try.prog 30 #[.agg #[.int .i64 r.k, .int .i64 r.ck, .int .i64 r.pi, .int .i64 r.px, .int .i64 r.py, .int .i64 r.si, .int .i64 r.sl, .int .i64 r.sh, .int .i64 r.q.qk, .int .i64 r.q.b1, .int .i64 r.q.b2, .int .i64 r.q.b3, .int .i64 r.q.b4, .int .i64 r.q.w1, .int .i64 r.q.w2, .int .i64 r.q.w3, .int .i64 r.q.x, .int .i64 r.q.h]] W fun e w' => e = .returned (.bool false) ∧ Below W.heap.size W w') := Lib.hid (fun W => by have h := good_r r W; rw [hg] at h; exact h)
  have HM : Hid (Mem (fun _ => False) w [] w) := Lib.hid (Mem.start _ w)
  clear hg
  unfold Rq.v
  go_enter Try.func29, Try.ntmps29
  go_wp2_with (first | (go_at_call 30; refine (HG.out _).mono ?_; rintro e wx ⟨rfl, hb⟩; have hm := HM.out.below hb; clear HM; have HM := Lib.hid hm; clear hm hb) | (with_reducible refine wpl_load (ty := 57) (fun K hK => ?_); refine wp_load_at _ _ rfl _ _ rfl ?_; refine LoadAt.row (n := 18) HM.out 0 rfl (by kernel_rfl) (by kernel_rfl) (Nat.le_of_ble_eq_true rfl) ?_; intro r hr; simp only [List.drop_zero, List.drop_succ_cons, List.take_zero, List.take_succ_cons, List.take_nil] at hr; subst hr; refine hK _ _ ?_; clear hK K; try simp only [Act.put, List.setIfInBounds_toArray, List.set_cons_zero, List.set_cons_succ]) | (with_reducible refine wpl_load (fun K hK => ?_); refine wp_load_at _ _ rfl _ _ rfl ?_; refine LoadAt.one HM.out 0 rfl (by kernel_rfl) (Nat.le_of_ble_eq_true rfl) ?_; intro v hv; simp only [List.getElem?_cons_zero, List.getElem?_cons_succ, Option.some.injEq] at hv; subst hv; refine hK _ _ ?_; clear hK K; try simp only [Act.put, List.setIfInBounds_toArray, List.set_cons_zero, List.set_cons_succ]) | (with_reducible refine wpl_store (ty := 57) (fun K hK => ?_); refine wp_store_at _ _ _ rfl _ _ rfl (.agg (List.toArray _)) rfl ?_; refine StoreAt.row HM.out 0 rfl (Nat.le_of_ble_eq_true rfl) (by kernel_rfl) rfl ?_; intro w9 new hnew hm; simp only [setAll, overlay] at hnew; subst hnew; simp only [List.set_cons_zero, List.set_cons_succ] at hm; clear HM; have HM := Lib.hid hm; clear hm; refine hK _ _ ?_; clear hK K; try simp only [Act.put, List.setIfInBounds_toArray, List.set_cons_zero, List.set_cons_succ]) | (with_reducible refine wpl_store (ty := 3) (fun K hK => ?_); refine wp_store_at _ _ _ rfl _ _ rfl (.int _ _) rfl ?_; refine StoreAt.one HM.out 0 rfl (Nat.le_of_ble_eq_true rfl) rfl (by kernel_rfl) rfl ?_; intro w9 new hnew hm; simp only [List.set_cons_zero, List.set_cons_succ] at hnew; subst hnew; simp only [List.set_cons_zero, List.set_cons_succ] at hm; clear HM; have HM := Lib.hid hm; clear hm; refine hK _ _ ?_; clear hK K; try simp only [Act.put, List.setIfInBounds_toArray, List.set_cons_zero, List.set_cons_succ]) | (with_reducible refine wpl_box (ty := 57) (fun K hK => ?_); refine wp_box_ma _ _ rfl HM.out _ rfl ?_; intro w9 kb9 hm; clear HM; have HM := Lib.hid hm; clear hm; refine hK _ _ ?_; clear hK K; try simp only [Act.put, List.setIfInBounds_toArray, List.set_cons_zero, List.set_cons_succ]) | (with_reducible refine wpl_box (ty := 3) (fun K hK => ?_); refine wp_box_m1 _ _ rfl HM.out (.int _ _) rfl rfl ?_; intro w9 kb9 hm; clear HM; have HM := Lib.hid hm; clear hm; refine hK _ _ ?_; clear hK K; try simp only [Act.put, List.setIfInBounds_toArray, List.set_cons_zero, List.set_cons_succ]) | fail)
  go_ret2
  exact ⟨rfl, HM.out.to_below (fun _ _ h => h)⟩
set_option maxRecDepth 100000 in
set_option maxHeartbeats 8000000 in
theorem enc_1 (r : Rq) (hk : r.k = 1) (hg : r.good = true) (hok : ROk r) (w : World) : Calls Try.prog 29 #[r.v] w fun e w' => ∃ A n c, e = .returned (.tuple #[.slice A n c, .int .i64 0]) ∧ Reads w' w'.heap.size 1 A n (kv .u8 (enc r)) ∧ n ≤ 100 ∧ Below w.heap.size w w' := by
  obtain ⟨i0, hi0, hz0, hz1, hz2⟩ := u8_parts
  have HG : Hid (∀ W, Calls Try.prog 30 #[.agg #[.int .i64 r.k, .int .i64 r.ck, .int .i64 r.pi, .int .i64 r.px, .int .i64 r.py, .int .i64 r.si, .int .i64 r.sl, .int .i64 r.sh, .int .i64 r.q.qk, .int .i64 r.q.b1, .int .i64 r.q.b2, .int .i64 r.q.b3, .int .i64 r.q.b4, .int .i64 r.q.w1, .int .i64 r.q.w2, .int .i64 r.q.w3, .int .i64 r.q.x, .int .i64 r.q.h]] W fun e w' => e = .returned (.bool true) ∧ Below W.heap.size W w') := Lib.hid (fun W => by have h := good_r r W; rw [hg] at h; exact h)
  have HM : Hid (Mem (fun _ => False) w [] w) := Lib.hid (Mem.start _ w)
  obtain ⟨L, hL⟩ : ∃ L, L = rnums r := ⟨_, rfl⟩
  obtain ⟨m, hm⟩ : ∃ m, m = L.length := ⟨_, rfl⟩
  have HN : Hid (∀ W, Calls Try.prog 65 #[.agg #[.int .i64 r.k, .int .i64 r.ck, .int .i64 r.pi, .int .i64 r.px, .int .i64 r.py, .int .i64 r.si, .int .i64 r.sl, .int .i64 r.sh, .int .i64 r.q.qk, .int .i64 r.q.b1, .int .i64 r.q.b2, .int .i64 r.q.b3, .int .i64 r.q.b4, .int .i64 r.q.w1, .int .i64 r.q.w2, .int .i64 r.q.w3, .int .i64 r.q.x, .int .i64 r.q.h]] W fun e w' => ∃ g, e = .returned (.slice (some ⟨g, 0, none⟩) m m) ∧ Blk w' g 3 (iv L).toArray ∧ Below W.heap.size W w') := Lib.hid (fun W => (nums_any r hg W).mono fun e w' h => by
    obtain ⟨g, h1, h2, -, h4⟩ := h
    rw [hm, hL]
    exact ⟨g, h1, h2, h4⟩)
  have hr1 := rhead_in r hg
  obtain ⟨hd, hhd⟩ : ∃ hd, hd = rhead r := ⟨_, rfl⟩
  have hh2 : rhead r = r.ck := by unfold rhead; rw [if_neg (by omega)]
  have HE : Hid (enc r = hd :: vints L) := Lib.hid (by rw [hhd, hL]; rfl)
  have HOK : Hid (∀ z ∈ L, I64 z) := Lib.hid (by rw [hL]; exact hok)
  have HLN : Hid (m ≤ 4 ∧ m = L.length) := Lib.hid ⟨by rw [hm, hL]; exact rnums_len r, hm⟩
  have t0 : (r.k == 1) = true := by rw [hk]; decide
  have t1 : IntKind.u8.wrap r.ck = hd := by rw [IntKind.wrap_u8, ← hh2, ← hhd]; omega
  clear hr1 hhd hh2 hg hok hk hL hm
  unfold Rq.v
  go_enter Try.func29, Try.ntmps29
  go_upto_region 3 with (first | (go_at_call 30; refine (HG.out _).mono ?_; rintro e wx ⟨rfl, hb⟩; have hm := HM.out.below hb; clear HM; have HM := Lib.hid hm; clear hm hb) | (with_reducible refine wpl_load (ty := 57) (fun K hK => ?_); refine wp_load_at _ _ rfl _ _ rfl ?_; refine LoadAt.row (n := 18) HM.out 0 rfl (by kernel_rfl) (by kernel_rfl) (Nat.le_of_ble_eq_true rfl) ?_; intro r hr; simp only [List.drop_zero, List.drop_succ_cons, List.take_zero, List.take_succ_cons, List.take_nil] at hr; subst hr; refine hK _ _ ?_; clear hK K; try simp only [Act.put, List.setIfInBounds_toArray, List.set_cons_zero, List.set_cons_succ]) | (with_reducible refine wpl_load (fun K hK => ?_); refine wp_load_at _ _ rfl _ _ rfl ?_; refine LoadAt.one HM.out 0 rfl (by kernel_rfl) (Nat.le_of_ble_eq_true rfl) ?_; intro v hv; simp only [List.getElem?_cons_zero, List.getElem?_cons_succ, Option.some.injEq] at hv; subst hv; refine hK _ _ ?_; clear hK K; try simp only [Act.put, List.setIfInBounds_toArray, List.set_cons_zero, List.set_cons_succ]) | (with_reducible refine wpl_store (ty := 57) (fun K hK => ?_); refine wp_store_at _ _ _ rfl _ _ rfl (.agg (List.toArray _)) rfl ?_; refine StoreAt.row HM.out 0 rfl (Nat.le_of_ble_eq_true rfl) (by kernel_rfl) rfl ?_; intro w9 new hnew hm; simp only [setAll, overlay] at hnew; subst hnew; simp only [List.set_cons_zero, List.set_cons_succ] at hm; clear HM; have HM := Lib.hid hm; clear hm; refine hK _ _ ?_; clear hK K; try simp only [Act.put, List.setIfInBounds_toArray, List.set_cons_zero, List.set_cons_succ]) | (with_reducible refine wpl_store (ty := 3) (fun K hK => ?_); refine wp_store_at _ _ _ rfl _ _ rfl (.int _ _) rfl ?_; refine StoreAt.one HM.out 0 rfl (Nat.le_of_ble_eq_true rfl) rfl (by kernel_rfl) rfl ?_; intro w9 new hnew hm; simp only [List.set_cons_zero, List.set_cons_succ] at hnew; subst hnew; simp only [List.set_cons_zero, List.set_cons_succ] at hm; clear HM; have HM := Lib.hid hm; clear hm; refine hK _ _ ?_; clear hK K; try simp only [Act.put, List.setIfInBounds_toArray, List.set_cons_zero, List.set_cons_succ]) | (with_reducible refine wpl_box (ty := 57) (fun K hK => ?_); refine wp_box_ma _ _ rfl HM.out _ rfl ?_; intro w9 kb9 hm; clear HM; have HM := Lib.hid hm; clear hm; refine hK _ _ ?_; clear hK K; try simp only [Act.put, List.setIfInBounds_toArray, List.set_cons_zero, List.set_cons_succ]) | (with_reducible refine wpl_box (ty := 3) (fun K hK => ?_); refine wp_box_m1 _ _ rfl HM.out (.int _ _) rfl rfl ?_; intro w9 kb9 hm; clear HM; have HM := Lib.hid hm; clear hm; refine hK _ _ ?_; clear hK K; try simp only [Act.put, List.setIfInBounds_toArray, List.set_cons_zero, List.set_cons_succ]) | fail)
  go_upto_region 5 with (first | (with_reducible refine wpl_load (ty := 57) (fun K hK => ?_); refine wp_load_at _ _ rfl _ _ rfl ?_; refine LoadAt.row (n := 18) HM.out 0 rfl (by kernel_rfl) (by kernel_rfl) (Nat.le_of_ble_eq_true rfl) ?_; intro r hr; simp only [List.drop_zero, List.drop_succ_cons, List.take_zero, List.take_succ_cons, List.take_nil] at hr; subst hr; refine hK _ _ ?_; clear hK K; try simp only [Act.put, List.setIfInBounds_toArray, List.set_cons_zero, List.set_cons_succ]) | (with_reducible refine wpl_load (fun K hK => ?_); refine wp_load_at _ _ rfl _ _ rfl ?_; refine LoadAt.one HM.out 0 rfl (by kernel_rfl) (Nat.le_of_ble_eq_true rfl) ?_; intro v hv; simp only [List.getElem?_cons_zero, List.getElem?_cons_succ, Option.some.injEq] at hv; subst hv; refine hK _ _ ?_; clear hK K; try simp only [Act.put, List.setIfInBounds_toArray, List.set_cons_zero, List.set_cons_succ]) | (with_reducible refine wpl_store (ty := 57) (fun K hK => ?_); refine wp_store_at _ _ _ rfl _ _ rfl (.agg (List.toArray _)) rfl ?_; refine StoreAt.row HM.out 0 rfl (Nat.le_of_ble_eq_true rfl) (by kernel_rfl) rfl ?_; intro w9 new hnew hm; simp only [setAll, overlay] at hnew; subst hnew; simp only [List.set_cons_zero, List.set_cons_succ] at hm; clear HM; have HM := Lib.hid hm; clear hm; refine hK _ _ ?_; clear hK K; try simp only [Act.put, List.setIfInBounds_toArray, List.set_cons_zero, List.set_cons_succ]) | (with_reducible refine wpl_store (ty := 3) (fun K hK => ?_); refine wp_store_at _ _ _ rfl _ _ rfl (.int _ _) rfl ?_; refine StoreAt.one HM.out 0 rfl (Nat.le_of_ble_eq_true rfl) rfl (by kernel_rfl) rfl ?_; intro w9 new hnew hm; simp only [List.set_cons_zero, List.set_cons_succ] at hnew; subst hnew; simp only [List.set_cons_zero, List.set_cons_succ] at hm; clear HM; have HM := Lib.hid hm; clear hm; refine hK _ _ ?_; clear hK K; try simp only [Act.put, List.setIfInBounds_toArray, List.set_cons_zero, List.set_cons_succ]) | (with_reducible refine wpl_box (ty := 57) (fun K hK => ?_); refine wp_box_ma _ _ rfl HM.out _ rfl ?_; intro w9 kb9 hm; clear HM; have HM := Lib.hid hm; clear hm; refine hK _ _ ?_; clear hK K; try simp only [Act.put, List.setIfInBounds_toArray, List.set_cons_zero, List.set_cons_succ]) | (with_reducible refine wpl_box (ty := 3) (fun K hK => ?_); refine wp_box_m1 _ _ rfl HM.out (.int _ _) rfl rfl ?_; intro w9 kb9 hm; clear HM; have HM := Lib.hid hm; clear hm; refine hK _ _ ?_; clear hK K; try simp only [Act.put, List.setIfInBounds_toArray, List.set_cons_zero, List.set_cons_succ]) | fail)
  have HK := Lib.hid (HM.out.to_below (fun _ _ h => h))
  have r1 : Hid ((wx.alloc (.cells #[.int .u8 hd] 5)).ownsRow wx.heap.size 5 1 (.slice none 0 0) 0 (kv .u8 [])) := Lib.hid (own_nil _ _ _ _)
  have r2 : Hid (Reads (wx.alloc (.cells #[.int .u8 hd] 5)) (wx.alloc (.cells #[.int .u8 hd] 5)).heap.size 1 (some ⟨wx.heap.size, 0, none⟩) 1 (kv .u8 [hd])) := Lib.hid (kreads_of_blk (l := [hd]) (Blk.new wx 5 _) rfl)
  go_upto_region 7 with (first
    | (at_builtin
       refine wpList_append_any _ rfl (.tmp 13) (.tmp 18) _ rfl wx.heap.size 5 i0 _ 1 1 Try.underlying58 hi0 hz0 hz1 hz2 rfl (by omega) (.slice none 0 0) _ (kv .u8 []) rfl r1.out _ _ 1 1 (kv .u8 [hd]) rfl r2.out kv_one (by simp only [maxLen]; omega) (by omega) (by simp) ?_
       intro v1 w1 hown1 hg1 hat1
       rw [kv_append] at hown1
       obtain ⟨A2, c2, rfl, hr2⟩ := own_slice hown1
       have q2 : Hid (Below w.heap.size w w1) := Lib.hid (HK.out.trans ((((Only.refl (fun i => wx.heap.size ≤ i) wx).alloc _).trans (Only.of_grown (S := fun i => wx.heap.size ≤ i) hg1 (fun i hi => by cases hi)) (fun _ _ h => h)).below HK.out.size (fun i hi h => by have := HK.out.size; omega)))
       have q3 : Hid (Far w w1 hd L 0 A2 1 c2) := Lib.hid ⟨by omega, by have h := row8_reads hown1; simpa [vints] using h, q2.out⟩
       have hm : Mem (fun _ => False) w [⟨kb9, 57, [.int .i64 r.k, .int .i64 r.ck, .int .i64 r.pi, .int .i64 r.px, .int .i64 r.py, .int .i64 r.si, .int .i64 r.sl, .int .i64 r.sh, .int .i64 r.q.qk, .int .i64 r.q.b1, .int .i64 r.q.b2, .int .i64 r.q.b3, .int .i64 r.q.b4, .int .i64 r.q.w1, .int .i64 r.q.w2, .int .i64 r.q.w3, .int .i64 r.q.x, .int .i64 r.q.h], true⟩] w1 := (HM.out.same ((Only.refl _ wx).alloc _)).same (Only.of_grown hg1 (fun i hi => by cases hi))
       clear HM
       have HM := Lib.hid hm
       clear hown1 hg1 hat1 hr2 hm
       try simp only [Act.put, List.setIfInBounds_toArray, List.set_cons_zero, List.set_cons_succ])
    | (with_reducible refine wpl_load (ty := 57) (fun K hK => ?_); refine wp_load_at _ _ rfl _ _ rfl ?_; refine LoadAt.row (n := 18) HM.out 0 rfl (by kernel_rfl) (by kernel_rfl) (Nat.le_of_ble_eq_true rfl) ?_; intro r hr; simp only [List.drop_zero, List.drop_succ_cons, List.take_zero, List.take_succ_cons, List.take_nil] at hr; subst hr; refine hK _ _ ?_; clear hK K; try simp only [Act.put, List.setIfInBounds_toArray, List.set_cons_zero, List.set_cons_succ]) | (with_reducible refine wpl_load (fun K hK => ?_); refine wp_load_at _ _ rfl _ _ rfl ?_; refine LoadAt.one HM.out 0 rfl (by kernel_rfl) (Nat.le_of_ble_eq_true rfl) ?_; intro v hv; simp only [List.getElem?_cons_zero, List.getElem?_cons_succ, Option.some.injEq] at hv; subst hv; refine hK _ _ ?_; clear hK K; try simp only [Act.put, List.setIfInBounds_toArray, List.set_cons_zero, List.set_cons_succ]) | (with_reducible refine wpl_store (ty := 57) (fun K hK => ?_); refine wp_store_at _ _ _ rfl _ _ rfl (.agg (List.toArray _)) rfl ?_; refine StoreAt.row HM.out 0 rfl (Nat.le_of_ble_eq_true rfl) (by kernel_rfl) rfl ?_; intro w9 new hnew hm; simp only [setAll, overlay] at hnew; subst hnew; simp only [List.set_cons_zero, List.set_cons_succ] at hm; clear HM; have HM := Lib.hid hm; clear hm; refine hK _ _ ?_; clear hK K; try simp only [Act.put, List.setIfInBounds_toArray, List.set_cons_zero, List.set_cons_succ]) | (with_reducible refine wpl_store (ty := 3) (fun K hK => ?_); refine wp_store_at _ _ _ rfl _ _ rfl (.int _ _) rfl ?_; refine StoreAt.one HM.out 0 rfl (Nat.le_of_ble_eq_true rfl) rfl (by kernel_rfl) rfl ?_; intro w9 new hnew hm; simp only [List.set_cons_zero, List.set_cons_succ] at hnew; subst hnew; simp only [List.set_cons_zero, List.set_cons_succ] at hm; clear HM; have HM := Lib.hid hm; clear hm; refine hK _ _ ?_; clear hK K; try simp only [Act.put, List.setIfInBounds_toArray, List.set_cons_zero, List.set_cons_succ]) | (with_reducible refine wpl_box (ty := 57) (fun K hK => ?_); refine wp_box_ma _ _ rfl HM.out _ rfl ?_; intro w9 kb9 hm; clear HM; have HM := Lib.hid hm; clear hm; refine hK _ _ ?_; clear hK K; try simp only [Act.put, List.setIfInBounds_toArray, List.set_cons_zero, List.set_cons_succ]) | (with_reducible refine wpl_box (ty := 3) (fun K hK => ?_); refine wp_box_m1 _ _ rfl HM.out (.int _ _) rfl rfl ?_; intro w9 kb9 hm; clear HM; have HM := Lib.hid hm; clear hm; refine hK _ _ ?_; clear hK K; try simp only [Act.put, List.setIfInBounds_toArray, List.set_cons_zero, List.set_cons_succ])
    | fail)
  clear r1 r2 HK
  go_wp2_with (first | (go_at_call 65; refine (HN.out _).mono ?_; rintro e wy ⟨g, rfl, hg2, hb2⟩) | (with_reducible refine wpl_load (ty := 57) (fun K hK => ?_); refine wp_load_at _ _ rfl _ _ rfl ?_; refine LoadAt.row (n := 18) HM.out 0 rfl (by kernel_rfl) (by kernel_rfl) (Nat.le_of_ble_eq_true rfl) ?_; intro r hr; simp only [List.drop_zero, List.drop_succ_cons, List.take_zero, List.take_succ_cons, List.take_nil] at hr; subst hr; refine hK _ _ ?_; clear hK K; try simp only [Act.put, List.setIfInBounds_toArray, List.set_cons_zero, List.set_cons_succ]) | (with_reducible refine wpl_load (fun K hK => ?_); refine wp_load_at _ _ rfl _ _ rfl ?_; refine LoadAt.one HM.out 0 rfl (by kernel_rfl) (Nat.le_of_ble_eq_true rfl) ?_; intro v hv; simp only [List.getElem?_cons_zero, List.getElem?_cons_succ, Option.some.injEq] at hv; subst hv; refine hK _ _ ?_; clear hK K; try simp only [Act.put, List.setIfInBounds_toArray, List.set_cons_zero, List.set_cons_succ]) | (with_reducible refine wpl_store (ty := 57) (fun K hK => ?_); refine wp_store_at _ _ _ rfl _ _ rfl (.agg (List.toArray _)) rfl ?_; refine StoreAt.row HM.out 0 rfl (Nat.le_of_ble_eq_true rfl) (by kernel_rfl) rfl ?_; intro w9 new hnew hm; simp only [setAll, overlay] at hnew; subst hnew; simp only [List.set_cons_zero, List.set_cons_succ] at hm; clear HM; have HM := Lib.hid hm; clear hm; refine hK _ _ ?_; clear hK K; try simp only [Act.put, List.setIfInBounds_toArray, List.set_cons_zero, List.set_cons_succ]) | (with_reducible refine wpl_store (ty := 3) (fun K hK => ?_); refine wp_store_at _ _ _ rfl _ _ rfl (.int _ _) rfl ?_; refine StoreAt.one HM.out 0 rfl (Nat.le_of_ble_eq_true rfl) rfl (by kernel_rfl) rfl ?_; intro w9 new hnew hm; simp only [List.set_cons_zero, List.set_cons_succ] at hnew; subst hnew; simp only [List.set_cons_zero, List.set_cons_succ] at hm; clear HM; have HM := Lib.hid hm; clear hm; refine hK _ _ ?_; clear hK K; try simp only [Act.put, List.setIfInBounds_toArray, List.set_cons_zero, List.set_cons_succ]) | (with_reducible refine wpl_box (ty := 57) (fun K hK => ?_); refine wp_box_ma _ _ rfl HM.out _ rfl ?_; intro w9 kb9 hm; clear HM; have HM := Lib.hid hm; clear hm; refine hK _ _ ?_; clear hK K; try simp only [Act.put, List.setIfInBounds_toArray, List.set_cons_zero, List.set_cons_succ]) | (with_reducible refine wpl_box (ty := 3) (fun K hK => ?_); refine wp_box_m1 _ _ rfl HM.out (.int _ _) rfl rfl ?_; intro w9 kb9 hm; clear HM; have HM := Lib.hid hm; clear hm; refine hK _ _ ?_; clear hK K; try simp only [Act.put, List.setIfInBounds_toArray, List.set_cons_zero, List.set_cons_succ]) | fail)
  have q4 : Hid (Far w wy hd L 0 A2 1 c2) := Lib.hid ⟨q3.out.1, (q3.out.2.1.below hb2).now (by omega), q2.out.trans (hb2.mono q2.out.size)⟩
  have HG2 := Lib.hid hg2
  clear q2 q3 HM HG hg2 hb2
  go_wp2_with fail
  go_loopg [4, 31] m (fun k b i wr => ∃ (j : Nat) (A1 : Option Addr) (n1 c1 : Nat), j + k = m ∧ b = .slice A1 n1 c1 ∧ i = .int .i64 (j : Int) ∧ Hid (Far w wr hd L j A1 n1 c1) ∧ Hid (Blk wr g 3 (iv L).toArray))
  case atStart => exact ⟨0, A2, 1, c2, by omega, rfl, rfl, q4, HG2⟩
  case round =>
    clear q4 HG2
    obtain ⟨j, A1, n1, c1, hjk, rfl, rfl, hF, hB⟩ := hrel
    have HJ := Lib.hid hjk
    by_cases hlt : j < m
    · have t5 : decide ((j : Int) < (m : Int)) = true := by simp; omega
      have t6 : (j : Int) < (m : Int) := by omega
      have HJ2 := Lib.hid hlt
      have HW : Hid (wrap64 ((j : Int) + 1) = ((j + 1 : Nat) : Int)) := Lib.hid (by have := HLN.out; unfold wrap64; omega)
      obtain ⟨z, hz⟩ : ∃ z, z = L.getD j 0 := ⟨_, rfl⟩
      have pz : wr.cell? ⟨g, j, none⟩ = some (.int .i64 z) := by rw [hB.out.cell, hz]; simpa using iv_get (by have := HLN.out; omega)
      have hzi : I64 z := HOK.out z (by rw [hz, List.getD_eq_getElem?_getD, List.getElem?_eq_getElem (by have := HLN.out; omega)]; simp)
      have HZ := Lib.hid hz
      have HZI := Lib.hid hzi
      clear hjk hlt hz hzi
      go_wp2_with fail
      refine (cint_any A1 n1 c1 (hd :: vints (L.take j)) z wr hF.out.2.1 HZI.out (by have := hF.out.1; have := HLN.out; have := HJ2.out; omega)).mono ?_
      rintro e w5 ⟨A5, c5, rfl, hrow, hb5⟩
      have q5 : Hid (Far w w5 hd L (j + 1) A5 (n1 + (vint z).length) c5) := Lib.hid ⟨by have := hF.out.1; have := vint_len HZI.out; omega, by
        have h := row8_reads hrow
        rw [take_step L j (by have := HLN.out; have := HJ2.out; omega), ← HZ.out]
        simpa using h, hF.out.2.2.trans (hb5.mono hF.out.2.2.size)⟩
      have q6 : Hid (Blk w5 g 3 (iv L).toArray) := Lib.hid (hB.out.below hb5 hB.out.lt)
      clear hrow hb5 pz
      generalize n1 + (vint z).length = n5 at *
      go_wp2_with fail
      go_roundg (gk - 1)
      case measure => have := HJ.out; have := HJ2.out; omega
      case rel => exact ⟨j + 1, A5, n5, c5, by have := HJ.out; have := HJ2.out; omega, rfl, by rw [HW.out], q5, q6⟩
    · have t5 : decide ((j : Int) < (m : Int)) = false := by simp; omega
      have t6 : ¬ (j : Int) < (m : Int) := by omega
      have e : L.take j = L := List.take_of_length_le (by have := HLN.out; omega)
      have q7 : Hid (Reads wr wr.heap.size 1 A1 n1 (kv .u8 (enc r))) := Lib.hid (by have h := hF.out.2.1; rw [e] at h; rw [HE.out]; exact h)
      clear hjk hlt e
      go_wp2_with fail
      go_ret2
      exact ⟨A1, n1, ⟨c1, rfl⟩, q7.out, by have := hF.out.1; have := HJ.out; have := HLN.out; omega, hF.out.2.2⟩
set_option maxRecDepth 100000 in
set_option maxHeartbeats 8000000 in
theorem enc_2 (r : Rq) (hk : r.k = 2) (hg : r.good = true) (hok : ROk r) (w : World) : Calls Try.prog 29 #[r.v] w fun e w' => ∃ A n c, e = .returned (.tuple #[.slice A n c, .int .i64 0]) ∧ Reads w' w'.heap.size 1 A n (kv .u8 (enc r)) ∧ n ≤ 100 ∧ Below w.heap.size w w' := by
  obtain ⟨i0, hi0, hz0, hz1, hz2⟩ := u8_parts
  have HG : Hid (∀ W, Calls Try.prog 30 #[.agg #[.int .i64 r.k, .int .i64 r.ck, .int .i64 r.pi, .int .i64 r.px, .int .i64 r.py, .int .i64 r.si, .int .i64 r.sl, .int .i64 r.sh, .int .i64 r.q.qk, .int .i64 r.q.b1, .int .i64 r.q.b2, .int .i64 r.q.b3, .int .i64 r.q.b4, .int .i64 r.q.w1, .int .i64 r.q.w2, .int .i64 r.q.w3, .int .i64 r.q.x, .int .i64 r.q.h]] W fun e w' => e = .returned (.bool true) ∧ Below W.heap.size W w') := Lib.hid (fun W => by have h := good_r r W; rw [hg] at h; exact h)
  have HM : Hid (Mem (fun _ => False) w [] w) := Lib.hid (Mem.start _ w)
  obtain ⟨L, hL⟩ : ∃ L, L = rnums r := ⟨_, rfl⟩
  obtain ⟨m, hm⟩ : ∃ m, m = L.length := ⟨_, rfl⟩
  have HN : Hid (∀ W, Calls Try.prog 65 #[.agg #[.int .i64 r.k, .int .i64 r.ck, .int .i64 r.pi, .int .i64 r.px, .int .i64 r.py, .int .i64 r.si, .int .i64 r.sl, .int .i64 r.sh, .int .i64 r.q.qk, .int .i64 r.q.b1, .int .i64 r.q.b2, .int .i64 r.q.b3, .int .i64 r.q.b4, .int .i64 r.q.w1, .int .i64 r.q.w2, .int .i64 r.q.w3, .int .i64 r.q.x, .int .i64 r.q.h]] W fun e w' => ∃ g, e = .returned (.slice (some ⟨g, 0, none⟩) m m) ∧ Blk w' g 3 (iv L).toArray ∧ Below W.heap.size W w') := Lib.hid (fun W => (nums_any r hg W).mono fun e w' h => by
    obtain ⟨g, h1, h2, -, h4⟩ := h
    rw [hm, hL]
    exact ⟨g, h1, h2, h4⟩)
  have hr1 := rhead_in r hg
  obtain ⟨hd, hhd⟩ : ∃ hd, hd = rhead r := ⟨_, rfl⟩
  have hh2 : rhead r = 16 + r.q.qk := by unfold rhead; rw [if_pos hk]
  have HE : Hid (enc r = hd :: vints L) := Lib.hid (by rw [hhd, hL]; rfl)
  have HOK : Hid (∀ z ∈ L, I64 z) := Lib.hid (by rw [hL]; exact hok)
  have HLN : Hid (m ≤ 4 ∧ m = L.length) := Lib.hid ⟨by rw [hm, hL]; exact rnums_len r, hm⟩
  have t0 : (r.k == 1) = false := by rw [hk]; decide
  have t1 : IntKind.i64.wrap (16 + r.q.qk) = 16 + r.q.qk := IntWalk.i64_in _ (by omega)
  have t2 : IntKind.u8.wrap (16 + r.q.qk) = hd := by rw [IntKind.wrap_u8, ← hh2, ← hhd]; omega
  clear hr1 hhd hh2 hg hok hk hL hm
  unfold Rq.v
  go_enter Try.func29, Try.ntmps29
  go_upto_region 3 with (first | (go_at_call 30; refine (HG.out _).mono ?_; rintro e wx ⟨rfl, hb⟩; have hm := HM.out.below hb; clear HM; have HM := Lib.hid hm; clear hm hb) | (with_reducible refine wpl_load (ty := 57) (fun K hK => ?_); refine wp_load_at _ _ rfl _ _ rfl ?_; refine LoadAt.row (n := 18) HM.out 0 rfl (by kernel_rfl) (by kernel_rfl) (Nat.le_of_ble_eq_true rfl) ?_; intro r hr; simp only [List.drop_zero, List.drop_succ_cons, List.take_zero, List.take_succ_cons, List.take_nil] at hr; subst hr; refine hK _ _ ?_; clear hK K; try simp only [Act.put, List.setIfInBounds_toArray, List.set_cons_zero, List.set_cons_succ]) | (with_reducible refine wpl_load (fun K hK => ?_); refine wp_load_at _ _ rfl _ _ rfl ?_; refine LoadAt.one HM.out 0 rfl (by kernel_rfl) (Nat.le_of_ble_eq_true rfl) ?_; intro v hv; simp only [List.getElem?_cons_zero, List.getElem?_cons_succ, Option.some.injEq] at hv; subst hv; refine hK _ _ ?_; clear hK K; try simp only [Act.put, List.setIfInBounds_toArray, List.set_cons_zero, List.set_cons_succ]) | (with_reducible refine wpl_store (ty := 57) (fun K hK => ?_); refine wp_store_at _ _ _ rfl _ _ rfl (.agg (List.toArray _)) rfl ?_; refine StoreAt.row HM.out 0 rfl (Nat.le_of_ble_eq_true rfl) (by kernel_rfl) rfl ?_; intro w9 new hnew hm; simp only [setAll, overlay] at hnew; subst hnew; simp only [List.set_cons_zero, List.set_cons_succ] at hm; clear HM; have HM := Lib.hid hm; clear hm; refine hK _ _ ?_; clear hK K; try simp only [Act.put, List.setIfInBounds_toArray, List.set_cons_zero, List.set_cons_succ]) | (with_reducible refine wpl_store (ty := 3) (fun K hK => ?_); refine wp_store_at _ _ _ rfl _ _ rfl (.int _ _) rfl ?_; refine StoreAt.one HM.out 0 rfl (Nat.le_of_ble_eq_true rfl) rfl (by kernel_rfl) rfl ?_; intro w9 new hnew hm; simp only [List.set_cons_zero, List.set_cons_succ] at hnew; subst hnew; simp only [List.set_cons_zero, List.set_cons_succ] at hm; clear HM; have HM := Lib.hid hm; clear hm; refine hK _ _ ?_; clear hK K; try simp only [Act.put, List.setIfInBounds_toArray, List.set_cons_zero, List.set_cons_succ]) | (with_reducible refine wpl_box (ty := 57) (fun K hK => ?_); refine wp_box_ma _ _ rfl HM.out _ rfl ?_; intro w9 kb9 hm; clear HM; have HM := Lib.hid hm; clear hm; refine hK _ _ ?_; clear hK K; try simp only [Act.put, List.setIfInBounds_toArray, List.set_cons_zero, List.set_cons_succ]) | (with_reducible refine wpl_box (ty := 3) (fun K hK => ?_); refine wp_box_m1 _ _ rfl HM.out (.int _ _) rfl rfl ?_; intro w9 kb9 hm; clear HM; have HM := Lib.hid hm; clear hm; refine hK _ _ ?_; clear hK K; try simp only [Act.put, List.setIfInBounds_toArray, List.set_cons_zero, List.set_cons_succ]) | fail)
  go_upto_region 6 with (first | (with_reducible refine wpl_load (ty := 57) (fun K hK => ?_); refine wp_load_at _ _ rfl _ _ rfl ?_; refine LoadAt.row (n := 18) HM.out 0 rfl (by kernel_rfl) (by kernel_rfl) (Nat.le_of_ble_eq_true rfl) ?_; intro r hr; simp only [List.drop_zero, List.drop_succ_cons, List.take_zero, List.take_succ_cons, List.take_nil] at hr; subst hr; refine hK _ _ ?_; clear hK K; try simp only [Act.put, List.setIfInBounds_toArray, List.set_cons_zero, List.set_cons_succ]) | (with_reducible refine wpl_load (fun K hK => ?_); refine wp_load_at _ _ rfl _ _ rfl ?_; refine LoadAt.one HM.out 0 rfl (by kernel_rfl) (Nat.le_of_ble_eq_true rfl) ?_; intro v hv; simp only [List.getElem?_cons_zero, List.getElem?_cons_succ, Option.some.injEq] at hv; subst hv; refine hK _ _ ?_; clear hK K; try simp only [Act.put, List.setIfInBounds_toArray, List.set_cons_zero, List.set_cons_succ]) | (with_reducible refine wpl_store (ty := 57) (fun K hK => ?_); refine wp_store_at _ _ _ rfl _ _ rfl (.agg (List.toArray _)) rfl ?_; refine StoreAt.row HM.out 0 rfl (Nat.le_of_ble_eq_true rfl) (by kernel_rfl) rfl ?_; intro w9 new hnew hm; simp only [setAll, overlay] at hnew; subst hnew; simp only [List.set_cons_zero, List.set_cons_succ] at hm; clear HM; have HM := Lib.hid hm; clear hm; refine hK _ _ ?_; clear hK K; try simp only [Act.put, List.setIfInBounds_toArray, List.set_cons_zero, List.set_cons_succ]) | (with_reducible refine wpl_store (ty := 3) (fun K hK => ?_); refine wp_store_at _ _ _ rfl _ _ rfl (.int _ _) rfl ?_; refine StoreAt.one HM.out 0 rfl (Nat.le_of_ble_eq_true rfl) rfl (by kernel_rfl) rfl ?_; intro w9 new hnew hm; simp only [List.set_cons_zero, List.set_cons_succ] at hnew; subst hnew; simp only [List.set_cons_zero, List.set_cons_succ] at hm; clear HM; have HM := Lib.hid hm; clear hm; refine hK _ _ ?_; clear hK K; try simp only [Act.put, List.setIfInBounds_toArray, List.set_cons_zero, List.set_cons_succ]) | (with_reducible refine wpl_box (ty := 57) (fun K hK => ?_); refine wp_box_ma _ _ rfl HM.out _ rfl ?_; intro w9 kb9 hm; clear HM; have HM := Lib.hid hm; clear hm; refine hK _ _ ?_; clear hK K; try simp only [Act.put, List.setIfInBounds_toArray, List.set_cons_zero, List.set_cons_succ]) | (with_reducible refine wpl_box (ty := 3) (fun K hK => ?_); refine wp_box_m1 _ _ rfl HM.out (.int _ _) rfl rfl ?_; intro w9 kb9 hm; clear HM; have HM := Lib.hid hm; clear hm; refine hK _ _ ?_; clear hK K; try simp only [Act.put, List.setIfInBounds_toArray, List.set_cons_zero, List.set_cons_succ]) | fail)
  have HK := Lib.hid (HM.out.to_below (fun _ _ h => h))
  have r1 : Hid ((wx.alloc (.cells #[.int .u8 hd] 5)).ownsRow wx.heap.size 5 1 (.slice none 0 0) 0 (kv .u8 [])) := Lib.hid (own_nil _ _ _ _)
  have r2 : Hid (Reads (wx.alloc (.cells #[.int .u8 hd] 5)) (wx.alloc (.cells #[.int .u8 hd] 5)).heap.size 1 (some ⟨wx.heap.size, 0, none⟩) 1 (kv .u8 [hd])) := Lib.hid (kreads_of_blk (l := [hd]) (Blk.new wx 5 _) rfl)
  go_upto_region 7 with (first
    | (at_builtin
       refine wpList_append_any _ rfl (.tmp 20) (.tmp 26) _ rfl wx.heap.size 5 i0 _ 1 1 Try.underlying58 hi0 hz0 hz1 hz2 rfl (by omega) (.slice none 0 0) _ (kv .u8 []) rfl r1.out _ _ 1 1 (kv .u8 [hd]) rfl r2.out kv_one (by simp only [maxLen]; omega) (by omega) (by simp) ?_
       intro v1 w1 hown1 hg1 hat1
       rw [kv_append] at hown1
       obtain ⟨A2, c2, rfl, hr2⟩ := own_slice hown1
       have q2 : Hid (Below w.heap.size w w1) := Lib.hid (HK.out.trans ((((Only.refl (fun i => wx.heap.size ≤ i) wx).alloc _).trans (Only.of_grown (S := fun i => wx.heap.size ≤ i) hg1 (fun i hi => by cases hi)) (fun _ _ h => h)).below HK.out.size (fun i hi h => by have := HK.out.size; omega)))
       have q3 : Hid (Far w w1 hd L 0 A2 1 c2) := Lib.hid ⟨by omega, by have h := row8_reads hown1; simpa [vints] using h, q2.out⟩
       have hm : Mem (fun _ => False) w [⟨kb9, 57, [.int .i64 r.k, .int .i64 r.ck, .int .i64 r.pi, .int .i64 r.px, .int .i64 r.py, .int .i64 r.si, .int .i64 r.sl, .int .i64 r.sh, .int .i64 r.q.qk, .int .i64 r.q.b1, .int .i64 r.q.b2, .int .i64 r.q.b3, .int .i64 r.q.b4, .int .i64 r.q.w1, .int .i64 r.q.w2, .int .i64 r.q.w3, .int .i64 r.q.x, .int .i64 r.q.h], true⟩] w1 := (HM.out.same ((Only.refl _ wx).alloc _)).same (Only.of_grown hg1 (fun i hi => by cases hi))
       clear HM
       have HM := Lib.hid hm
       clear hown1 hg1 hat1 hr2 hm
       try simp only [Act.put, List.setIfInBounds_toArray, List.set_cons_zero, List.set_cons_succ])
    | (with_reducible refine wpl_load (ty := 57) (fun K hK => ?_); refine wp_load_at _ _ rfl _ _ rfl ?_; refine LoadAt.row (n := 18) HM.out 0 rfl (by kernel_rfl) (by kernel_rfl) (Nat.le_of_ble_eq_true rfl) ?_; intro r hr; simp only [List.drop_zero, List.drop_succ_cons, List.take_zero, List.take_succ_cons, List.take_nil] at hr; subst hr; refine hK _ _ ?_; clear hK K; try simp only [Act.put, List.setIfInBounds_toArray, List.set_cons_zero, List.set_cons_succ]) | (with_reducible refine wpl_load (fun K hK => ?_); refine wp_load_at _ _ rfl _ _ rfl ?_; refine LoadAt.one HM.out 0 rfl (by kernel_rfl) (Nat.le_of_ble_eq_true rfl) ?_; intro v hv; simp only [List.getElem?_cons_zero, List.getElem?_cons_succ, Option.some.injEq] at hv; subst hv; refine hK _ _ ?_; clear hK K; try simp only [Act.put, List.setIfInBounds_toArray, List.set_cons_zero, List.set_cons_succ]) | (with_reducible refine wpl_store (ty := 57) (fun K hK => ?_); refine wp_store_at _ _ _ rfl _ _ rfl (.agg (List.toArray _)) rfl ?_; refine StoreAt.row HM.out 0 rfl (Nat.le_of_ble_eq_true rfl) (by kernel_rfl) rfl ?_; intro w9 new hnew hm; simp only [setAll, overlay] at hnew; subst hnew; simp only [List.set_cons_zero, List.set_cons_succ] at hm; clear HM; have HM := Lib.hid hm; clear hm; refine hK _ _ ?_; clear hK K; try simp only [Act.put, List.setIfInBounds_toArray, List.set_cons_zero, List.set_cons_succ]) | (with_reducible refine wpl_store (ty := 3) (fun K hK => ?_); refine wp_store_at _ _ _ rfl _ _ rfl (.int _ _) rfl ?_; refine StoreAt.one HM.out 0 rfl (Nat.le_of_ble_eq_true rfl) rfl (by kernel_rfl) rfl ?_; intro w9 new hnew hm; simp only [List.set_cons_zero, List.set_cons_succ] at hnew; subst hnew; simp only [List.set_cons_zero, List.set_cons_succ] at hm; clear HM; have HM := Lib.hid hm; clear hm; refine hK _ _ ?_; clear hK K; try simp only [Act.put, List.setIfInBounds_toArray, List.set_cons_zero, List.set_cons_succ]) | (with_reducible refine wpl_box (ty := 57) (fun K hK => ?_); refine wp_box_ma _ _ rfl HM.out _ rfl ?_; intro w9 kb9 hm; clear HM; have HM := Lib.hid hm; clear hm; refine hK _ _ ?_; clear hK K; try simp only [Act.put, List.setIfInBounds_toArray, List.set_cons_zero, List.set_cons_succ]) | (with_reducible refine wpl_box (ty := 3) (fun K hK => ?_); refine wp_box_m1 _ _ rfl HM.out (.int _ _) rfl rfl ?_; intro w9 kb9 hm; clear HM; have HM := Lib.hid hm; clear hm; refine hK _ _ ?_; clear hK K; try simp only [Act.put, List.setIfInBounds_toArray, List.set_cons_zero, List.set_cons_succ])
    | fail)
  clear r1 r2 HK
  go_wp2_with (first | (go_at_call 65; refine (HN.out _).mono ?_; rintro e wy ⟨g, rfl, hg2, hb2⟩) | (with_reducible refine wpl_load (ty := 57) (fun K hK => ?_); refine wp_load_at _ _ rfl _ _ rfl ?_; refine LoadAt.row (n := 18) HM.out 0 rfl (by kernel_rfl) (by kernel_rfl) (Nat.le_of_ble_eq_true rfl) ?_; intro r hr; simp only [List.drop_zero, List.drop_succ_cons, List.take_zero, List.take_succ_cons, List.take_nil] at hr; subst hr; refine hK _ _ ?_; clear hK K; try simp only [Act.put, List.setIfInBounds_toArray, List.set_cons_zero, List.set_cons_succ]) | (with_reducible refine wpl_load (fun K hK => ?_); refine wp_load_at _ _ rfl _ _ rfl ?_; refine LoadAt.one HM.out 0 rfl (by kernel_rfl) (Nat.le_of_ble_eq_true rfl) ?_; intro v hv; simp only [List.getElem?_cons_zero, List.getElem?_cons_succ, Option.some.injEq] at hv; subst hv; refine hK _ _ ?_; clear hK K; try simp only [Act.put, List.setIfInBounds_toArray, List.set_cons_zero, List.set_cons_succ]) | (with_reducible refine wpl_store (ty := 57) (fun K hK => ?_); refine wp_store_at _ _ _ rfl _ _ rfl (.agg (List.toArray _)) rfl ?_; refine StoreAt.row HM.out 0 rfl (Nat.le_of_ble_eq_true rfl) (by kernel_rfl) rfl ?_; intro w9 new hnew hm; simp only [setAll, overlay] at hnew; subst hnew; simp only [List.set_cons_zero, List.set_cons_succ] at hm; clear HM; have HM := Lib.hid hm; clear hm; refine hK _ _ ?_; clear hK K; try simp only [Act.put, List.setIfInBounds_toArray, List.set_cons_zero, List.set_cons_succ]) | (with_reducible refine wpl_store (ty := 3) (fun K hK => ?_); refine wp_store_at _ _ _ rfl _ _ rfl (.int _ _) rfl ?_; refine StoreAt.one HM.out 0 rfl (Nat.le_of_ble_eq_true rfl) rfl (by kernel_rfl) rfl ?_; intro w9 new hnew hm; simp only [List.set_cons_zero, List.set_cons_succ] at hnew; subst hnew; simp only [List.set_cons_zero, List.set_cons_succ] at hm; clear HM; have HM := Lib.hid hm; clear hm; refine hK _ _ ?_; clear hK K; try simp only [Act.put, List.setIfInBounds_toArray, List.set_cons_zero, List.set_cons_succ]) | (with_reducible refine wpl_box (ty := 57) (fun K hK => ?_); refine wp_box_ma _ _ rfl HM.out _ rfl ?_; intro w9 kb9 hm; clear HM; have HM := Lib.hid hm; clear hm; refine hK _ _ ?_; clear hK K; try simp only [Act.put, List.setIfInBounds_toArray, List.set_cons_zero, List.set_cons_succ]) | (with_reducible refine wpl_box (ty := 3) (fun K hK => ?_); refine wp_box_m1 _ _ rfl HM.out (.int _ _) rfl rfl ?_; intro w9 kb9 hm; clear HM; have HM := Lib.hid hm; clear hm; refine hK _ _ ?_; clear hK K; try simp only [Act.put, List.setIfInBounds_toArray, List.set_cons_zero, List.set_cons_succ]) | fail)
  have q4 : Hid (Far w wy hd L 0 A2 1 c2) := Lib.hid ⟨q3.out.1, (q3.out.2.1.below hb2).now (by omega), q2.out.trans (hb2.mono q2.out.size)⟩
  have HG2 := Lib.hid hg2
  clear q2 q3 HM HG hg2 hb2
  go_wp2_with fail
  go_loopg [4, 31] m (fun k b i wr => ∃ (j : Nat) (A1 : Option Addr) (n1 c1 : Nat), j + k = m ∧ b = .slice A1 n1 c1 ∧ i = .int .i64 (j : Int) ∧ Hid (Far w wr hd L j A1 n1 c1) ∧ Hid (Blk wr g 3 (iv L).toArray))
  case atStart => exact ⟨0, A2, 1, c2, by omega, rfl, rfl, q4, HG2⟩
  case round =>
    clear q4 HG2
    obtain ⟨j, A1, n1, c1, hjk, rfl, rfl, hF, hB⟩ := hrel
    have HJ := Lib.hid hjk
    by_cases hlt : j < m
    · have t5 : decide ((j : Int) < (m : Int)) = true := by simp; omega
      have t6 : (j : Int) < (m : Int) := by omega
      have HJ2 := Lib.hid hlt
      have HW : Hid (wrap64 ((j : Int) + 1) = ((j + 1 : Nat) : Int)) := Lib.hid (by have := HLN.out; unfold wrap64; omega)
      obtain ⟨z, hz⟩ : ∃ z, z = L.getD j 0 := ⟨_, rfl⟩
      have pz : wr.cell? ⟨g, j, none⟩ = some (.int .i64 z) := by rw [hB.out.cell, hz]; simpa using iv_get (by have := HLN.out; omega)
      have hzi : I64 z := HOK.out z (by rw [hz, List.getD_eq_getElem?_getD, List.getElem?_eq_getElem (by have := HLN.out; omega)]; simp)
      have HZ := Lib.hid hz
      have HZI := Lib.hid hzi
      clear hjk hlt hz hzi
      go_wp2_with fail
      refine (cint_any A1 n1 c1 (hd :: vints (L.take j)) z wr hF.out.2.1 HZI.out (by have := hF.out.1; have := HLN.out; have := HJ2.out; omega)).mono ?_
      rintro e w5 ⟨A5, c5, rfl, hrow, hb5⟩
      have q5 : Hid (Far w w5 hd L (j + 1) A5 (n1 + (vint z).length) c5) := Lib.hid ⟨by have := hF.out.1; have := vint_len HZI.out; omega, by
        have h := row8_reads hrow
        rw [take_step L j (by have := HLN.out; have := HJ2.out; omega), ← HZ.out]
        simpa using h, hF.out.2.2.trans (hb5.mono hF.out.2.2.size)⟩
      have q6 : Hid (Blk w5 g 3 (iv L).toArray) := Lib.hid (hB.out.below hb5 hB.out.lt)
      clear hrow hb5 pz
      generalize n1 + (vint z).length = n5 at *
      go_wp2_with fail
      go_roundg (gk - 1)
      case measure => have := HJ.out; have := HJ2.out; omega
      case rel => exact ⟨j + 1, A5, n5, c5, by have := HJ.out; have := HJ2.out; omega, rfl, by rw [HW.out], q5, q6⟩
    · have t5 : decide ((j : Int) < (m : Int)) = false := by simp; omega
      have t6 : ¬ (j : Int) < (m : Int) := by omega
      have e : L.take j = L := List.take_of_length_le (by have := HLN.out; omega)
      have q7 : Hid (Reads wr wr.heap.size 1 A1 n1 (kv .u8 (enc r))) := Lib.hid (by have h := hF.out.2.1; rw [e] at h; rw [HE.out]; exact h)
      clear hjk hlt e
      go_wp2_with fail
      go_ret2
      exact ⟨A1, n1, ⟨c1, rfl⟩, q7.out, by have := hF.out.1; have := HJ.out; have := HLN.out; omega, hF.out.2.2⟩
theorem enc_any (r : Rq) (hg : r.good = true) (hok : ROk r) (w : World) : Calls Try.prog 29 #[r.v] w fun e w' => ∃ A n c, e = .returned (.tuple #[.slice A n c, .int .i64 0]) ∧ Reads w' w'.heap.size 1 A n (kv .u8 (enc r)) ∧ n ≤ 100 ∧ Below w.heap.size w w' := by
  have h := hg
  simp only [Rq.good, decide_eq_true_eq] at h
  rcases h with h | h
  · exact enc_1 r h.1 hg hok w
  · exact enc_2 r h.1 hg hok w
end Go.Proofs.Ytencgokpbfkeiaa
