/- CodecWrites: its ways (layer 29). -/
import Derived.Test.YtencgokpbfkeiaaCr
set_option linter.unusedVariables false
set_option linter.unusedSimpArgs false
namespace Go.Proofs.Ytencgokpbfkeiaa
open Go.ChangeShapes Go.WideShapes Go.ChangeAt Go.RowKit
theorem wf_of_u8 {z : Int} (h : 0 ≤ z ∧ z < 256) : (Lit.int .u8 z).wf = true := by
  have h1 : IntKind.u8.min = 0 := by decide
  have h2 : IntKind.u8.max = 255 := by decide
  simp [Lit.wf, h1, h2]
  omega
theorem okb {l : List Int} (h : ∀ c ∈ l, 0 ≤ c ∧ c < 256) : okK .u8 l := by
  intro z hz
  have := h z hz
  exact wf_of_u8 this
theorem Mem.rebase {S : Nat → Prop} {w0 w : World} {l : List Ent} (h : Mem S w0 l w) : Mem (fun _ => False) w (l.map fun e => ⟨e.g, e.t, e.cs, false⟩) w where
  only := Only.refl _ _
  blk := fun e he => by
    obtain ⟨x, hx, rfl⟩ := List.mem_map.1 he
    exact h.blk x hx
  nodup := by
    have := h.nodup
    simpa [List.map_map, Function.comp_def] using this
  may := fun e he hb => by
    obtain ⟨x, hx, rfl⟩ := List.mem_map.1 he
    cases hb
theorem only_good (r : Rq) (hg : r.good = true) : r.only.good = true := by
  have hw := only_ways r hg
  obtain ⟨k, ck, pi, px, py, si, sl, sh, ⟨qk, b1, b2, b3, b4, w1, w2, w3, x, h⟩⟩ := r
  simp only at hw
  rcases hw with ⟨rfl, rfl | rfl | rfl | rfl⟩ | ⟨rfl, rfl | rfl | rfl | rfl | rfl | rfl | rfl⟩
  all_goals
    unfold Rq.only
    rw [if_pos hg]
    rfl
set_option maxRecDepth 100000 in
set_option maxHeartbeats 8000000 in
theorem writes_bad (r s : Rq) (hgr : r.good = false) (w : World) : Calls Try.prog 6 #[r.v, s.v] w fun e w' => e = .returned (.bool true) ∧ Below w.heap.size w w' := by
  have HE1 : Hid (∀ W, Calls Try.prog 29 #[.agg #[.int .i64 r.k, .int .i64 r.ck, .int .i64 r.pi, .int .i64 r.px, .int .i64 r.py, .int .i64 r.si, .int .i64 r.sl, .int .i64 r.sh, .int .i64 r.q.qk, .int .i64 r.q.b1, .int .i64 r.q.b2, .int .i64 r.q.b3, .int .i64 r.q.b4, .int .i64 r.q.w1, .int .i64 r.q.w2, .int .i64 r.q.w3, .int .i64 r.q.x, .int .i64 r.q.h]] W fun e w' => e = .returned (.tuple #[.slice none 0 0, .int .i64 8]) ∧ Below W.heap.size W w') := Lib.hid (fun W => enc_no r hgr W)
  have HC : Hid (∀ W, Calls Try.prog 30 #[.agg #[.int .i64 r.k, .int .i64 r.ck, .int .i64 r.pi, .int .i64 r.px, .int .i64 r.py, .int .i64 r.si, .int .i64 r.sl, .int .i64 r.sh, .int .i64 r.q.qk, .int .i64 r.q.b1, .int .i64 r.q.b2, .int .i64 r.q.b3, .int .i64 r.q.b4, .int .i64 r.q.w1, .int .i64 r.q.w2, .int .i64 r.q.w3, .int .i64 r.q.x, .int .i64 r.q.h]] W fun e w' => e = .returned (.bool false) ∧ Below W.heap.size W w') := Lib.hid (fun W => by have h := good_r r W; rw [hgr] at h; exact h)
  have HG : Hid (∀ W, Calls Try.prog 31 #[.agg #[.int .i64 r.k, .int .i64 r.ck, .int .i64 r.pi, .int .i64 r.px, .int .i64 r.py, .int .i64 r.si, .int .i64 r.sl, .int .i64 r.sh, .int .i64 r.q.qk, .int .i64 r.q.b1, .int .i64 r.q.b2, .int .i64 r.q.b3, .int .i64 r.q.b4, .int .i64 r.q.w1, .int .i64 r.q.w2, .int .i64 r.q.w3, .int .i64 r.q.x, .int .i64 r.q.h]] W fun e w' => e = .returned (.bool false) ∧ Below W.heap.size W w') := Lib.hid (fun W => by have h := rgood_r r W; rw [hgr] at h; exact h)
  have ho : r.only = Rq.zero := by unfold Rq.only; rw [hgr]; rfl
  have HOC : Hid (∀ W, Calls Try.prog 32 #[.agg #[.int .i64 r.k, .int .i64 r.ck, .int .i64 r.pi, .int .i64 r.px, .int .i64 r.py, .int .i64 r.si, .int .i64 r.sl, .int .i64 r.sh, .int .i64 r.q.qk, .int .i64 r.q.b1, .int .i64 r.q.b2, .int .i64 r.q.b3, .int .i64 r.q.b4, .int .i64 r.q.w1, .int .i64 r.q.w2, .int .i64 r.q.w3, .int .i64 r.q.x, .int .i64 r.q.h]] W fun e w' => e = .returned (.agg #[.int .i64 0, .int .i64 0, .int .i64 0, .int .i64 0, .int .i64 0, .int .i64 0, .int .i64 0, .int .i64 0, .int .i64 0, .int .i64 0, .int .i64 0, .int .i64 0, .int .i64 0, .int .i64 0, .int .i64 0, .int .i64 0, .int .i64 0, .int .i64 0]) ∧ Below W.heap.size W w') := Lib.hid (fun W => by have h := only_any r W; rw [ho] at h; exact h)
  have HLV : Hid (∀ W, Calls Try.prog 33 #[] W fun e w' => e = .returned (.bool true) ∧ Below W.heap.size W w') := Lib.hid lives29
  clear hgr ho
  have HM : Hid (Mem (fun _ => False) w [] w) := Lib.hid (Mem.start _ w)
  unfold Rq.v
  go_enter Try.func6, Try.ntmps6
  go_upto_region 2 with (first | (with_reducible refine wpl_box (d := some 2) (fun K hK => ?_); refine wp_box_ma _ _ rfl HM.out _ rfl ?_; intro w9 kr hm; clear HM; have HM := Lib.hid hm; clear hm; refine hK _ _ ?_; clear hK K; try simp only [Act.put, List.setIfInBounds_toArray, List.set_cons_zero, List.set_cons_succ]) | (with_reducible refine wpl_box (d := some 3) (fun K hK => ?_); refine wp_box_ma _ _ rfl HM.out _ rfl ?_; intro w9 ks hm; clear HM; have HM := Lib.hid hm; clear hm; refine hK _ _ ?_; clear hK K; try simp only [Act.put, List.setIfInBounds_toArray, List.set_cons_zero, List.set_cons_succ]) | (go_at_call 29; (with_reducible refine (HE1.out _).mono ?_); rintro e wx ⟨rfl, hb⟩; have hm := HM.out.below hb; clear HM; have HM := Lib.hid hm; clear hm hb) | (with_reducible refine wpl_load (ty := 57) (fun K hK => ?_); refine wp_load_at _ _ rfl _ _ rfl ?_; (first | refine LoadAt.row (n := 18) HM.out 0 rfl (by kernel_rfl) (by kernel_rfl) (Nat.le_of_ble_eq_true rfl) ?_ | refine LoadAt.row (n := 18) HM.out 1 rfl (by kernel_rfl) (by kernel_rfl) (Nat.le_of_ble_eq_true rfl) ?_); intro r hr; simp only [List.drop_zero, List.drop_succ_cons, List.take_zero, List.take_succ_cons, List.take_nil] at hr; subst hr; refine hK _ _ ?_; clear hK K; try simp only [Act.put, List.setIfInBounds_toArray, List.set_cons_zero, List.set_cons_succ]) | (with_reducible refine wpl_load (fun K hK => ?_); refine wp_load_at _ _ rfl _ _ rfl ?_; (first | refine LoadAt.one HM.out 0 rfl (by kernel_rfl) (Nat.le_of_ble_eq_true rfl) ?_ | refine LoadAt.one HM.out 1 rfl (by kernel_rfl) (Nat.le_of_ble_eq_true rfl) ?_); intro v hv; simp only [List.getElem?_cons_zero, List.getElem?_cons_succ, Option.some.injEq] at hv; subst hv; refine hK _ _ ?_; clear hK K; try simp only [Act.put, List.setIfInBounds_toArray, List.set_cons_zero, List.set_cons_succ]) | (with_reducible refine wpl_store (ty := 57) (fun K hK => ?_); refine wp_store_at _ _ _ rfl _ _ rfl (.agg (List.toArray _)) rfl ?_; (first | refine StoreAt.row HM.out 0 rfl (Nat.le_of_ble_eq_true rfl) (by kernel_rfl) rfl ?_ | refine StoreAt.row HM.out 1 rfl (Nat.le_of_ble_eq_true rfl) (by kernel_rfl) rfl ?_); intro w9 new hnew hm; simp only [setAll, overlay] at hnew; subst hnew; simp only [List.set_cons_zero, List.set_cons_succ] at hm; clear HM; have HM := Lib.hid hm; clear hm; refine hK _ _ ?_; clear hK K; try simp only [Act.put, List.setIfInBounds_toArray, List.set_cons_zero, List.set_cons_succ]) | (with_reducible refine wpl_box (ty := 57) (fun K hK => ?_); refine wp_box_ma _ _ rfl HM.out _ rfl ?_; intro w9 kb9 hm; clear HM; have HM := Lib.hid hm; clear hm; refine hK _ _ ?_; clear hK K; try simp only [Act.put, List.setIfInBounds_toArray, List.set_cons_zero, List.set_cons_succ]) | fail)
  refine wp_region_noPanic ?_
  refine wp_region_held_drew (S := (fun w' => Blk w' kr 57 #[.int .i64 r.k, .int .i64 r.ck, .int .i64 r.pi, .int .i64 r.px, .int .i64 r.py, .int .i64 r.si, .int .i64 r.sl, .int .i64 r.sh, .int .i64 r.q.qk, .int .i64 r.q.b1, .int .i64 r.q.b2, .int .i64 r.q.b3, .int .i64 r.q.b4, .int .i64 r.q.w1, .int .i64 r.q.w2, .int .i64 r.q.w3, .int .i64 r.q.x, .int .i64 r.q.h])) (by kernel_rfl) ?_ (fun hHeld => ?_)
  · exact HM.out.at_ 1 rfl
  have hm := HM.out.drew
  clear HM
  have HM := Lib.hid hm
  clear hm
  refine wpAnyH_take (i := 0) (oi := ⟨_, _, _, _, _, _⟩) (v := .agg #[.int .i64 r.k, .int .i64 r.ck, .int .i64 r.pi, .int .i64 r.px, .int .i64 r.py, .int .i64 r.si, .int .i64 r.sl, .int .i64 r.sh, .int .i64 r.q.qk, .int .i64 r.q.b1, .int .i64 r.q.b2, .int .i64 r.q.b3, .int .i64 r.q.b4, .int .i64 r.q.w1, .int .i64 r.q.w2, .int .i64 r.q.w3, .int .i64 r.q.x, .int .i64 r.q.h]) rfl (by kernel_rfl) (by kernel_rfl) (by kernel_rfl) (fun _ _ _ h => h) (yieldsIf_load_mid (by rfl) 57 (.tmp 2) rfl _ 0 rfl [.int .i64 r.k, .int .i64 r.ck, .int .i64 r.pi, .int .i64 r.px, .int .i64 r.py, .int .i64 r.si, .int .i64 r.sl, .int .i64 r.sh, .int .i64 r.q.qk, .int .i64 r.q.b1, .int .i64 r.q.b2, .int .i64 r.q.b3, .int .i64 r.q.b4, .int .i64 r.q.w1, .int .i64 r.q.w2, .int .i64 r.q.w3, .int .i64 r.q.x, .int .i64 r.q.h] _ (fun w h => range_of_blk h 0 18 _ rfl) Try.underlying57 rfl (by kernel_rfl)) (by assumption) ?_
  try simp only [Act.put, List.setIfInBounds_toArray, List.set_cons_zero, List.set_cons_succ]
  refine wpAnyH_take (i := 2) (oi := ⟨_, _, _, _, _, _⟩) (v := .agg #[.int .i64 r.k, .int .i64 r.ck, .int .i64 r.pi, .int .i64 r.px, .int .i64 r.py, .int .i64 r.si, .int .i64 r.sl, .int .i64 r.sh, .int .i64 r.q.qk, .int .i64 r.q.b1, .int .i64 r.q.b2, .int .i64 r.q.b3, .int .i64 r.q.b4, .int .i64 r.q.w1, .int .i64 r.q.w2, .int .i64 r.q.w3, .int .i64 r.q.x, .int .i64 r.q.h]) rfl (by kernel_rfl) (by kernel_rfl) (by kernel_rfl) (fun _ _ _ h => h) (yieldsIf_load_mid (by rfl) 57 (.tmp 2) rfl _ 0 rfl [.int .i64 r.k, .int .i64 r.ck, .int .i64 r.pi, .int .i64 r.px, .int .i64 r.py, .int .i64 r.si, .int .i64 r.sl, .int .i64 r.sh, .int .i64 r.q.qk, .int .i64 r.q.b1, .int .i64 r.q.b2, .int .i64 r.q.b3, .int .i64 r.q.b4, .int .i64 r.q.w1, .int .i64 r.q.w2, .int .i64 r.q.w3, .int .i64 r.q.x, .int .i64 r.q.h] _ (fun w h => range_of_blk h 0 18 _ rfl) Try.underlying57 rfl (by kernel_rfl)) (by assumption) ?_
  try simp only [Act.put, List.setIfInBounds_toArray, List.set_cons_zero, List.set_cons_succ]
  refine wpAnyH_ready (rs := [1]) (by kernel_rfl) (by simp) ?_
  refine AllReadyH.cons (o := ⟨_, _, _, _, _, _⟩) rfl (fun K hK => ?_) AllReadyH.nil
  go_simp
  go_at_call 30
  refine (HC.out _).mono ?_
  rintro e wx ⟨rfl, hb⟩
  have hm := HM.out.below hb
  clear HM hb
  have HM := Lib.hid hm
  clear hm
  refine hK.out _ _ ?_ (fun hHeld => ?_)
  · exact HM.out.at_ 1 rfl
  clear hK K
  try simp only [Act.put, List.setIfInBounds_toArray, List.set_cons_zero, List.set_cons_succ]
  refine wpAnyH_ready (rs := [3]) (by kernel_rfl) (by simp) ?_
  refine AllReadyH.cons (o := ⟨_, _, _, _, _, _⟩) rfl (fun K hK => ?_) AllReadyH.nil
  go_simp
  go_at_call 31
  refine (HG.out _).mono ?_
  rintro e wx ⟨rfl, hb⟩
  have hm := HM.out.below hb
  clear HM hb
  have HM := Lib.hid hm
  clear hm
  refine hK.out _ _ ?_ (fun hHeld => ?_)
  · exact HM.out.at_ 1 rfl
  clear hK K
  try simp only [Act.put, List.setIfInBounds_toArray, List.set_cons_zero, List.set_cons_succ]
  refine wpAnyH_take (i := 4) (oi := ⟨_, _, _, _, _, _⟩) (v := ?_) rfl (by kernel_rfl) (by kernel_rfl) (by kernel_rfl) (fun _ _ _ h => h) (Or.inl ⟨by rfl, ?_⟩) (by assumption) ?_
  rotate_left
  · intro w hSw; (try dsimp only at hSw); go_split_ands; go_simp; try with_reducible rfl
  try simp only [Act.put, List.setIfInBounds_toArray, List.set_cons_zero, List.set_cons_succ]
  refine wpAnyH_done (by kernel_rfl) ?_ _
  refine NoPanic.normal ?_
  skip
  go_wp2_with (first | (go_at_call 31; (with_reducible refine (HG.out _).mono ?_); rintro e wx ⟨rfl, hb⟩; have hm := HM.out.below hb; clear HM; have HM := Lib.hid hm; clear hm hb) | (go_at_call 32; (with_reducible refine (HOC.out _).mono ?_); rintro e wx ⟨rfl, hb⟩; have hm := HM.out.below hb; clear HM; have HM := Lib.hid hm; clear hm hb) | (go_at_call 33; (with_reducible refine (HLV.out _).mono ?_); rintro e wx ⟨rfl, hb⟩; have hm := HM.out.below hb; clear HM; have HM := Lib.hid hm; clear hm hb) | (with_reducible refine wpl_loadg (ty := 57) ?_ (fun K hK => ?_); (first | exact rfl | kernel_rfl); refine wp_load_at _ _ rfl _ _ rfl ?_; (first | refine LoadAt.row (n := 18) HM.out 0 rfl (by kernel_rfl) (by kernel_rfl) (Nat.le_of_ble_eq_true rfl) ?_ | refine LoadAt.row (n := 18) HM.out 1 rfl (by kernel_rfl) (by kernel_rfl) (Nat.le_of_ble_eq_true rfl) ?_); intro r hr; simp only [List.drop_zero, List.drop_succ_cons, List.take_zero, List.take_succ_cons, List.take_nil] at hr; subst hr; refine hK _ _ ?_; clear hK K; try simp only [Act.put, List.setIfInBounds_toArray, List.set_cons_zero, List.set_cons_succ]) | (with_reducible refine wpl_load (ty := 57) (fun K hK => ?_); refine wp_load_at _ _ rfl _ _ rfl ?_; (first | refine LoadAt.row (n := 18) HM.out 0 rfl (by kernel_rfl) (by kernel_rfl) (Nat.le_of_ble_eq_true rfl) ?_ | refine LoadAt.row (n := 18) HM.out 1 rfl (by kernel_rfl) (by kernel_rfl) (Nat.le_of_ble_eq_true rfl) ?_); intro r hr; simp only [List.drop_zero, List.drop_succ_cons, List.take_zero, List.take_succ_cons, List.take_nil] at hr; subst hr; refine hK _ _ ?_; clear hK K; try simp only [Act.put, List.setIfInBounds_toArray, List.set_cons_zero, List.set_cons_succ]) | (with_reducible refine wpl_load (fun K hK => ?_); refine wp_load_at _ _ rfl _ _ rfl ?_; (first | refine LoadAt.one HM.out 0 rfl (by kernel_rfl) (Nat.le_of_ble_eq_true rfl) ?_ | refine LoadAt.one HM.out 1 rfl (by kernel_rfl) (Nat.le_of_ble_eq_true rfl) ?_); intro v hv; simp only [List.getElem?_cons_zero, List.getElem?_cons_succ, Option.some.injEq] at hv; subst hv; refine hK _ _ ?_; clear hK K; try simp only [Act.put, List.setIfInBounds_toArray, List.set_cons_zero, List.set_cons_succ]) | (with_reducible refine wpl_store (ty := 57) (fun K hK => ?_); refine wp_store_at _ _ _ rfl _ _ rfl (.agg (List.toArray _)) rfl ?_; (first | refine StoreAt.row HM.out 0 rfl (Nat.le_of_ble_eq_true rfl) (by kernel_rfl) rfl ?_ | refine StoreAt.row HM.out 1 rfl (Nat.le_of_ble_eq_true rfl) (by kernel_rfl) rfl ?_); intro w9 new hnew hm; simp only [setAll, overlay] at hnew; subst hnew; simp only [List.set_cons_zero, List.set_cons_succ] at hm; clear HM; have HM := Lib.hid hm; clear hm; refine hK _ _ ?_; clear hK K; try simp only [Act.put, List.setIfInBounds_toArray, List.set_cons_zero, List.set_cons_succ]) | (with_reducible refine wpl_box (ty := 57) (fun K hK => ?_); refine wp_box_ma _ _ rfl HM.out _ rfl ?_; intro w9 kb9 hm; clear HM; have HM := Lib.hid hm; clear hm; refine hK _ _ ?_; clear hK K; try simp only [Act.put, List.setIfInBounds_toArray, List.set_cons_zero, List.set_cons_succ]) | fail)
  go_ret
  exact ⟨rfl, HM.out.to_below (fun _ _ h => h)⟩
set_option maxRecDepth 100000 in
set_option maxHeartbeats 8000000 in
theorem writes_gg (r s : Rq) (hgr : r.good = true) (hgs : s.good = true) (or : ROk r) (w : World) : Calls Try.prog 6 #[r.v, s.v] w fun e w' => e = .returned (.bool true) ∧ Below w.heap.size w w' := by
  have HE1 : Hid (∀ W, Calls Try.prog 29 #[.agg #[.int .i64 r.k, .int .i64 r.ck, .int .i64 r.pi, .int .i64 r.px, .int .i64 r.py, .int .i64 r.si, .int .i64 r.sl, .int .i64 r.sh, .int .i64 r.q.qk, .int .i64 r.q.b1, .int .i64 r.q.b2, .int .i64 r.q.b3, .int .i64 r.q.b4, .int .i64 r.q.w1, .int .i64 r.q.w2, .int .i64 r.q.w3, .int .i64 r.q.x, .int .i64 r.q.h]] W fun e w' => ∃ A n c, e = .returned (.tuple #[.slice A n c, .int .i64 0]) ∧ Reads w' w'.heap.size 1 A n (kv .u8 (enc r)) ∧ n ≤ 100 ∧ Below W.heap.size W w') := Lib.hid (fun W => enc_any r hgr or W)
  have HE : Hid (∀ W, Calls Try.prog 37 #[.agg #[.int .i64 r.k, .int .i64 r.ck, .int .i64 r.pi, .int .i64 r.px, .int .i64 r.py, .int .i64 r.si, .int .i64 r.sl, .int .i64 r.sh, .int .i64 r.q.qk, .int .i64 r.q.b1, .int .i64 r.q.b2, .int .i64 r.q.b3, .int .i64 r.q.b4, .int .i64 r.q.w1, .int .i64 r.q.w2, .int .i64 r.q.w3, .int .i64 r.q.x, .int .i64 r.q.h]] W fun e w' => ∃ A n c, e = .returned (.slice A n c) ∧ Reads w' w'.heap.size 1 A n (kv .u8 (enc r)) ∧ Below W.heap.size W w') := Lib.hid (fun W => (renc_any r hgr or W).mono fun e w' h => by obtain ⟨A, n, c, h1, h2, -, h4⟩ := h; exact ⟨A, n, c, h1, h2, h4⟩)
  have HC : Hid (∀ W, Calls Try.prog 30 #[.agg #[.int .i64 r.k, .int .i64 r.ck, .int .i64 r.pi, .int .i64 r.px, .int .i64 r.py, .int .i64 r.si, .int .i64 r.sl, .int .i64 r.sh, .int .i64 r.q.qk, .int .i64 r.q.b1, .int .i64 r.q.b2, .int .i64 r.q.b3, .int .i64 r.q.b4, .int .i64 r.q.w1, .int .i64 r.q.w2, .int .i64 r.q.w3, .int .i64 r.q.x, .int .i64 r.q.h]] W fun e w' => e = .returned (.bool true) ∧ Below W.heap.size W w') := Lib.hid (fun W => by have h := good_r r W; rw [hgr] at h; exact h)
  have HG : Hid (∀ W, Calls Try.prog 31 #[.agg #[.int .i64 r.k, .int .i64 r.ck, .int .i64 r.pi, .int .i64 r.px, .int .i64 r.py, .int .i64 r.si, .int .i64 r.sl, .int .i64 r.sh, .int .i64 r.q.qk, .int .i64 r.q.b1, .int .i64 r.q.b2, .int .i64 r.q.b3, .int .i64 r.q.b4, .int .i64 r.q.w1, .int .i64 r.q.w2, .int .i64 r.q.w3, .int .i64 r.q.x, .int .i64 r.q.h]] W fun e w' => e = .returned (.bool true) ∧ Below W.heap.size W w') := Lib.hid (fun W => by have h := rgood_r r W; rw [hgr] at h; exact h)
  have HGS : Hid (∀ W, Calls Try.prog 31 #[.agg #[.int .i64 s.k, .int .i64 s.ck, .int .i64 s.pi, .int .i64 s.px, .int .i64 s.py, .int .i64 s.si, .int .i64 s.sl, .int .i64 s.sh, .int .i64 s.q.qk, .int .i64 s.q.b1, .int .i64 s.q.b2, .int .i64 s.q.b3, .int .i64 s.q.b4, .int .i64 s.q.w1, .int .i64 s.q.w2, .int .i64 s.q.w3, .int .i64 s.q.x, .int .i64 s.q.h]] W fun e w' => e = .returned (.bool true) ∧ Below W.heap.size W w') := Lib.hid (fun W => by have h := rgood_r s W; rw [hgs] at h; exact h)
  obtain ⟨x, hx⟩ : ∃ x, x = r.only := ⟨_, rfl⟩
  have HOR : Hid (∀ W, Calls Try.prog 34 #[.agg #[.int .i64 r.k, .int .i64 r.ck, .int .i64 r.pi, .int .i64 r.px, .int .i64 r.py, .int .i64 r.si, .int .i64 r.sl, .int .i64 r.sh, .int .i64 r.q.qk, .int .i64 r.q.b1, .int .i64 r.q.b2, .int .i64 r.q.b3, .int .i64 r.q.b4, .int .i64 r.q.w1, .int .i64 r.q.w2, .int .i64 r.q.w3, .int .i64 r.q.x, .int .i64 r.q.h]] W fun e w' => e = .returned (.agg #[.int .i64 x.k, .int .i64 x.ck, .int .i64 x.pi, .int .i64 x.px, .int .i64 x.py, .int .i64 x.si, .int .i64 x.sl, .int .i64 x.sh, .int .i64 x.q.qk, .int .i64 x.q.b1, .int .i64 x.q.b2, .int .i64 x.q.b3, .int .i64 x.q.b4, .int .i64 x.q.w1, .int .i64 x.q.w2, .int .i64 x.q.w3, .int .i64 x.q.x, .int .i64 x.q.h]) ∧ Below W.heap.size W w') := Lib.hid (fun W => by have h := ronly_any r hgr W; rw [← hx] at h; exact h)
  have HOC : Hid (∀ W, Calls Try.prog 32 #[.agg #[.int .i64 r.k, .int .i64 r.ck, .int .i64 r.pi, .int .i64 r.px, .int .i64 r.py, .int .i64 r.si, .int .i64 r.sl, .int .i64 r.sh, .int .i64 r.q.qk, .int .i64 r.q.b1, .int .i64 r.q.b2, .int .i64 r.q.b3, .int .i64 r.q.b4, .int .i64 r.q.w1, .int .i64 r.q.w2, .int .i64 r.q.w3, .int .i64 r.q.x, .int .i64 r.q.h]] W fun e w' => e = .returned (.agg #[.int .i64 x.k, .int .i64 x.ck, .int .i64 x.pi, .int .i64 x.px, .int .i64 x.py, .int .i64 x.si, .int .i64 x.sl, .int .i64 x.sh, .int .i64 x.q.qk, .int .i64 x.q.b1, .int .i64 x.q.b2, .int .i64 x.q.b3, .int .i64 x.q.b4, .int .i64 x.q.w1, .int .i64 x.q.w2, .int .i64 x.q.w3, .int .i64 x.q.x, .int .i64 x.q.h]) ∧ Below W.heap.size W w') := Lib.hid (fun W => by have h := only_any r W; rw [← hx] at h; exact h)
  have hx9 : (decide (r.only = s.only)) = decide (s.only = r.only) := by
    rw [decide_eq_decide]; exact ⟨Eq.symm, Eq.symm⟩
  obtain ⟨bb, hbb⟩ : ∃ bb, bb = decide (s.only = r.only) := ⟨_, rfl⟩
  obtain ⟨y, hy⟩ : ∃ y, y = s.only := ⟨_, rfl⟩
  have heq := eq_rr y x
  rw [hy, hx, ← hbb, ← hx, ← hy] at heq
  have HOS : Hid (∀ W, Calls Try.prog 34 #[.agg #[.int .i64 s.k, .int .i64 s.ck, .int .i64 s.pi, .int .i64 s.px, .int .i64 s.py, .int .i64 s.si, .int .i64 s.sl, .int .i64 s.sh, .int .i64 s.q.qk, .int .i64 s.q.b1, .int .i64 s.q.b2, .int .i64 s.q.b3, .int .i64 s.q.b4, .int .i64 s.q.w1, .int .i64 s.q.w2, .int .i64 s.q.w3, .int .i64 s.q.x, .int .i64 s.q.h]] W fun e w' => e = .returned (.agg #[.int .i64 y.k, .int .i64 y.ck, .int .i64 y.pi, .int .i64 y.px, .int .i64 y.py, .int .i64 y.si, .int .i64 y.sl, .int .i64 y.sh, .int .i64 y.q.qk, .int .i64 y.q.b1, .int .i64 y.q.b2, .int .i64 y.q.b3, .int .i64 y.q.b4, .int .i64 y.q.w1, .int .i64 y.q.w2, .int .i64 y.q.w3, .int .i64 y.q.x, .int .i64 y.q.h]) ∧ Below W.heap.size W w') := Lib.hid (fun W => by have h := ronly_any s hgs W; rw [← hy] at h; exact h)
  have HSM : Hid (∀ W, Calls Try.prog 36 #[.agg #[.int .i64 r.k, .int .i64 r.ck, .int .i64 r.pi, .int .i64 r.px, .int .i64 r.py, .int .i64 r.si, .int .i64 r.sl, .int .i64 r.sh, .int .i64 r.q.qk, .int .i64 r.q.b1, .int .i64 r.q.b2, .int .i64 r.q.b3, .int .i64 r.q.b4, .int .i64 r.q.w1, .int .i64 r.q.w2, .int .i64 r.q.w3, .int .i64 r.q.x, .int .i64 r.q.h], .agg #[.int .i64 s.k, .int .i64 s.ck, .int .i64 s.pi, .int .i64 s.px, .int .i64 s.py, .int .i64 s.si, .int .i64 s.sl, .int .i64 s.sh, .int .i64 s.q.qk, .int .i64 s.q.b1, .int .i64 s.q.b2, .int .i64 s.q.b3, .int .i64 s.q.b4, .int .i64 s.q.w1, .int .i64 s.q.w2, .int .i64 s.q.w3, .int .i64 s.q.x, .int .i64 s.q.h]] W fun e w' => e = .returned (.bool bb) ∧ Below W.heap.size W w') := Lib.hid (fun W => by have h := same_any2 r s W; rw [hx9, ← hbb] at h; exact h)
  have HDE : Hid (dec (enc r) = some x) := Lib.hid (by rw [hx]; exact dec_enc r hgr or)
  have HOK : Hid (okK .u8 (enc r)) := Lib.hid (okb (enc_bytes r hgr))
  obtain ⟨S1, hS1⟩ : ∃ S1, strOfNums (enc r) = S1 := ⟨_, rfl⟩
  have HSE := Lib.hid hS1
  have hxx := eq_rr x x
  rw [decide_eq_true rfl] at hxx
  have HLV : Hid (∀ W, Calls Try.prog 33 #[] W fun e w' => e = .returned (.bool true) ∧ Below W.heap.size W w') := Lib.hid lives29
  obtain ⟨i0, hi0, hz0, hz1, hz2⟩ := u8_parts
  clear hgr hgs or hx hS1 hx9 hbb hy
  have HM : Hid (Mem (fun _ => False) w [] w) := Lib.hid (Mem.start _ w)
  unfold Rq.v at *
  go_enter Try.func6, Try.ntmps6
  go_upto_region 2 with (first | (with_reducible refine wpl_box (d := some 2) (fun K hK => ?_); refine wp_box_ma _ _ rfl HM.out _ rfl ?_; intro w9 kr hm; clear HM; have HM := Lib.hid hm; clear hm; refine hK _ _ ?_; clear hK K; try simp only [Act.put, List.setIfInBounds_toArray, List.set_cons_zero, List.set_cons_succ]) | (with_reducible refine wpl_box (d := some 3) (fun K hK => ?_); refine wp_box_ma _ _ rfl HM.out _ rfl ?_; intro w9 ks hm; clear HM; have HM := Lib.hid hm; clear hm; refine hK _ _ ?_; clear hK K; try simp only [Act.put, List.setIfInBounds_toArray, List.set_cons_zero, List.set_cons_succ]) | (go_at_call 29; refine (HE1.out _).mono ?_; rintro e w1e ⟨A1, n1, c1, rfl, hr1, hn1, hb⟩; have HR1 := Lib.hid hr1; have HN1 := Lib.hid hn1; clear hr1 hn1; have hm := HM.out.below hb; clear HM; have HM := Lib.hid hm; clear hm hb) | (with_reducible refine wpl_load (ty := 57) (fun K hK => ?_); refine wp_load_at _ _ rfl _ _ rfl ?_; (first | refine LoadAt.row (n := 18) HM.out 0 rfl (by kernel_rfl) (by kernel_rfl) (Nat.le_of_ble_eq_true rfl) ?_ | refine LoadAt.row (n := 18) HM.out 1 rfl (by kernel_rfl) (by kernel_rfl) (Nat.le_of_ble_eq_true rfl) ?_); intro r hr; simp only [List.drop_zero, List.drop_succ_cons, List.take_zero, List.take_succ_cons, List.take_nil] at hr; subst hr; refine hK _ _ ?_; clear hK K; try simp only [Act.put, List.setIfInBounds_toArray, List.set_cons_zero, List.set_cons_succ]) | (with_reducible refine wpl_load (fun K hK => ?_); refine wp_load_at _ _ rfl _ _ rfl ?_; (first | refine LoadAt.one HM.out 0 rfl (by kernel_rfl) (Nat.le_of_ble_eq_true rfl) ?_ | refine LoadAt.one HM.out 1 rfl (by kernel_rfl) (Nat.le_of_ble_eq_true rfl) ?_); intro v hv; simp only [List.getElem?_cons_zero, List.getElem?_cons_succ, Option.some.injEq] at hv; subst hv; refine hK _ _ ?_; clear hK K; try simp only [Act.put, List.setIfInBounds_toArray, List.set_cons_zero, List.set_cons_succ]) | (with_reducible refine wpl_store (ty := 57) (fun K hK => ?_); refine wp_store_at _ _ _ rfl _ _ rfl (.agg (List.toArray _)) rfl ?_; (first | refine StoreAt.row HM.out 0 rfl (Nat.le_of_ble_eq_true rfl) (by kernel_rfl) rfl ?_ | refine StoreAt.row HM.out 1 rfl (Nat.le_of_ble_eq_true rfl) (by kernel_rfl) rfl ?_); intro w9 new hnew hm; simp only [setAll, overlay] at hnew; subst hnew; simp only [List.set_cons_zero, List.set_cons_succ] at hm; clear HM; have HM := Lib.hid hm; clear hm; refine hK _ _ ?_; clear hK K; try simp only [Act.put, List.setIfInBounds_toArray, List.set_cons_zero, List.set_cons_succ]) | (with_reducible refine wpl_box (ty := 57) (fun K hK => ?_); refine wp_box_ma _ _ rfl HM.out _ rfl ?_; intro w9 kb9 hm; clear HM; have HM := Lib.hid hm; clear hm; refine hK _ _ ?_; clear hK K; try simp only [Act.put, List.setIfInBounds_toArray, List.set_cons_zero, List.set_cons_succ]) | fail)
  have HB0 := Lib.hid (HM.out.to_below (fun _ _ h => h))
  have hm : Mem (fun _ => False) w1e [⟨ks, 57, [.int .i64 s.k, .int .i64 s.ck, .int .i64 s.pi, .int .i64 s.px, .int .i64 s.py, .int .i64 s.si, .int .i64 s.sl, .int .i64 s.sh, .int .i64 s.q.qk, .int .i64 s.q.b1, .int .i64 s.q.b2, .int .i64 s.q.b3, .int .i64 s.q.b4, .int .i64 s.q.w1, .int .i64 s.q.w2, .int .i64 s.q.w3, .int .i64 s.q.x, .int .i64 s.q.h], false⟩, ⟨kr, 57, [.int .i64 r.k, .int .i64 r.ck, .int .i64 r.pi, .int .i64 r.px, .int .i64 r.py, .int .i64 r.si, .int .i64 r.sl, .int .i64 r.sh, .int .i64 r.q.qk, .int .i64 r.q.b1, .int .i64 r.q.b2, .int .i64 r.q.b3, .int .i64 r.q.b4, .int .i64 r.q.w1, .int .i64 r.q.w2, .int .i64 r.q.w3, .int .i64 r.q.x, .int .i64 r.q.h], false⟩] w1e := HM.out.rebase
  clear HM
  have HM := Lib.hid hm
  clear hm
  have HC5 : Hid (∀ W, Below w1e.heap.size w1e W → (convert 58 9 (.slice A1 n1 c1)).run Try.prog W = .ok (.string S1) W) := Lib.hid (fun W hW => by rw [← HSE.out]; exact conv_str (HR1.out.below hW))
  refine wp_region_noPanic ?_
  refine wp_region_held_drew (S := (fun w' => Blk w' kr 57 #[.int .i64 r.k, .int .i64 r.ck, .int .i64 r.pi, .int .i64 r.px, .int .i64 r.py, .int .i64 r.si, .int .i64 r.sl, .int .i64 r.sh, .int .i64 r.q.qk, .int .i64 r.q.b1, .int .i64 r.q.b2, .int .i64 r.q.b3, .int .i64 r.q.b4, .int .i64 r.q.w1, .int .i64 r.q.w2, .int .i64 r.q.w3, .int .i64 r.q.x, .int .i64 r.q.h])) (by kernel_rfl) ?_ (fun hHeld => ?_)
  · exact HM.out.at_ 1 rfl
  have hm := HM.out.drew
  clear HM
  have HM := Lib.hid hm
  clear hm
  refine wpAnyH_take (i := 0) (oi := ⟨_, _, _, _, _, _⟩) (v := .agg #[.int .i64 r.k, .int .i64 r.ck, .int .i64 r.pi, .int .i64 r.px, .int .i64 r.py, .int .i64 r.si, .int .i64 r.sl, .int .i64 r.sh, .int .i64 r.q.qk, .int .i64 r.q.b1, .int .i64 r.q.b2, .int .i64 r.q.b3, .int .i64 r.q.b4, .int .i64 r.q.w1, .int .i64 r.q.w2, .int .i64 r.q.w3, .int .i64 r.q.x, .int .i64 r.q.h]) rfl (by kernel_rfl) (by kernel_rfl) (by kernel_rfl) (fun _ _ _ h => h) (yieldsIf_load_mid (by rfl) 57 (.tmp 2) rfl _ 0 rfl [.int .i64 r.k, .int .i64 r.ck, .int .i64 r.pi, .int .i64 r.px, .int .i64 r.py, .int .i64 r.si, .int .i64 r.sl, .int .i64 r.sh, .int .i64 r.q.qk, .int .i64 r.q.b1, .int .i64 r.q.b2, .int .i64 r.q.b3, .int .i64 r.q.b4, .int .i64 r.q.w1, .int .i64 r.q.w2, .int .i64 r.q.w3, .int .i64 r.q.x, .int .i64 r.q.h] _ (fun w h => range_of_blk h 0 18 _ rfl) Try.underlying57 rfl (by kernel_rfl)) (by assumption) ?_
  try simp only [Act.put, List.setIfInBounds_toArray, List.set_cons_zero, List.set_cons_succ]
  refine wpAnyH_take (i := 2) (oi := ⟨_, _, _, _, _, _⟩) (v := .agg #[.int .i64 r.k, .int .i64 r.ck, .int .i64 r.pi, .int .i64 r.px, .int .i64 r.py, .int .i64 r.si, .int .i64 r.sl, .int .i64 r.sh, .int .i64 r.q.qk, .int .i64 r.q.b1, .int .i64 r.q.b2, .int .i64 r.q.b3, .int .i64 r.q.b4, .int .i64 r.q.w1, .int .i64 r.q.w2, .int .i64 r.q.w3, .int .i64 r.q.x, .int .i64 r.q.h]) rfl (by kernel_rfl) (by kernel_rfl) (by kernel_rfl) (fun _ _ _ h => h) (yieldsIf_load_mid (by rfl) 57 (.tmp 2) rfl _ 0 rfl [.int .i64 r.k, .int .i64 r.ck, .int .i64 r.pi, .int .i64 r.px, .int .i64 r.py, .int .i64 r.si, .int .i64 r.sl, .int .i64 r.sh, .int .i64 r.q.qk, .int .i64 r.q.b1, .int .i64 r.q.b2, .int .i64 r.q.b3, .int .i64 r.q.b4, .int .i64 r.q.w1, .int .i64 r.q.w2, .int .i64 r.q.w3, .int .i64 r.q.x, .int .i64 r.q.h] _ (fun w h => range_of_blk h 0 18 _ rfl) Try.underlying57 rfl (by kernel_rfl)) (by assumption) ?_
  try simp only [Act.put, List.setIfInBounds_toArray, List.set_cons_zero, List.set_cons_succ]
  refine wpAnyH_ready (rs := [1]) (by kernel_rfl) (by simp) ?_
  refine AllReadyH.cons (o := ⟨_, _, _, _, _, _⟩) rfl (fun K hK => ?_) AllReadyH.nil
  go_simp
  go_at_call 30
  refine (HC.out _).mono ?_
  rintro e wx ⟨rfl, hb⟩
  have hm := HM.out.below hb
  clear HM hb
  have HM := Lib.hid hm
  clear hm
  refine hK.out _ _ ?_ (fun hHeld => ?_)
  · exact HM.out.at_ 1 rfl
  clear hK K
  try simp only [Act.put, List.setIfInBounds_toArray, List.set_cons_zero, List.set_cons_succ]
  refine wpAnyH_ready (rs := [3]) (by kernel_rfl) (by simp) ?_
  refine AllReadyH.cons (o := ⟨_, _, _, _, _, _⟩) rfl (fun K hK => ?_) AllReadyH.nil
  go_simp
  go_at_call 31
  refine (HG.out _).mono ?_
  rintro e wx ⟨rfl, hb⟩
  have hm := HM.out.below hb
  clear HM hb
  have HM := Lib.hid hm
  clear hm
  refine hK.out _ _ ?_ (fun hHeld => ?_)
  · exact HM.out.at_ 1 rfl
  clear hK K
  try simp only [Act.put, List.setIfInBounds_toArray, List.set_cons_zero, List.set_cons_succ]
  refine wpAnyH_take (i := 4) (oi := ⟨_, _, _, _, _, _⟩) (v := ?_) rfl (by kernel_rfl) (by kernel_rfl) (by kernel_rfl) (fun _ _ _ h => h) (Or.inl ⟨by rfl, ?_⟩) (by assumption) ?_
  rotate_left
  · intro w hSw; (try dsimp only at hSw); go_split_ands; go_simp; try with_reducible rfl
  try simp only [Act.put, List.setIfInBounds_toArray, List.set_cons_zero, List.set_cons_succ]
  refine wpAnyH_done (by kernel_rfl) ?_ _
  refine NoPanic.normal ?_
  skip
  go_upto_region 7 with (first | (go_at_call 31; (with_reducible refine (HG.out _).mono ?_); rintro e wx ⟨rfl, hb⟩; have hm := HM.out.below hb; clear HM; have HM := Lib.hid hm; clear hm hb) | (go_at_call 34; (with_reducible refine (HOR.out _).mono ?_); rintro e wx ⟨rfl, hb⟩; have hm := HM.out.below hb; clear HM; have HM := Lib.hid hm; clear hm hb) | (with_reducible refine wpl_alloc (d := some 7) (ty := 57) (fun K hK => ?_); refine wp_alloc_ma 57 rfl HM.out [.int .i64 0, .int .i64 0, .int .i64 0, .int .i64 0, .int .i64 0, .int .i64 0, .int .i64 0, .int .i64 0, .int .i64 0, .int .i64 0, .int .i64 0, .int .i64 0, .int .i64 0, .int .i64 0, .int .i64 0, .int .i64 0, .int .i64 0, .int .i64 0] (by kernel_rfl) ?_; intro w9 k7 hm; clear HM; have HM := Lib.hid hm; clear hm; refine hK _ _ ?_; clear hK K; try simp only [Act.put, List.setIfInBounds_toArray, List.set_cons_zero, List.set_cons_succ]) | (with_reducible refine wpl_load (ty := 57) (fun K hK => ?_); refine wp_load_at _ _ rfl _ _ rfl ?_; (first | refine LoadAt.row (n := 18) HM.out 0 rfl (by kernel_rfl) (by kernel_rfl) (Nat.le_of_ble_eq_true rfl) ?_ | refine LoadAt.row (n := 18) HM.out 1 rfl (by kernel_rfl) (by kernel_rfl) (Nat.le_of_ble_eq_true rfl) ?_ | refine LoadAt.row (n := 18) HM.out 2 rfl (by kernel_rfl) (by kernel_rfl) (Nat.le_of_ble_eq_true rfl) ?_); intro r hr; simp only [List.drop_zero, List.drop_succ_cons, List.take_zero, List.take_succ_cons, List.take_nil] at hr; subst hr; refine hK _ _ ?_; clear hK K; try simp only [Act.put, List.setIfInBounds_toArray, List.set_cons_zero, List.set_cons_succ]) | (with_reducible refine wpl_load (fun K hK => ?_); refine wp_load_at _ _ rfl _ _ rfl ?_; (first | refine LoadAt.one HM.out 0 rfl (by kernel_rfl) (Nat.le_of_ble_eq_true rfl) ?_ | refine LoadAt.one HM.out 1 rfl (by kernel_rfl) (Nat.le_of_ble_eq_true rfl) ?_ | refine LoadAt.one HM.out 2 rfl (by kernel_rfl) (Nat.le_of_ble_eq_true rfl) ?_); intro v hv; simp only [List.getElem?_cons_zero, List.getElem?_cons_succ, Option.some.injEq] at hv; subst hv; refine hK _ _ ?_; clear hK K; try simp only [Act.put, List.setIfInBounds_toArray, List.set_cons_zero, List.set_cons_succ]) | (with_reducible refine wpl_store (ty := 57) (fun K hK => ?_); refine wp_store_at _ _ _ rfl _ _ rfl (.agg (List.toArray _)) rfl ?_; (first | refine StoreAt.row HM.out 0 rfl (Nat.le_of_ble_eq_true rfl) (by kernel_rfl) rfl ?_ | refine StoreAt.row HM.out 1 rfl (Nat.le_of_ble_eq_true rfl) (by kernel_rfl) rfl ?_ | refine StoreAt.row HM.out 2 rfl (Nat.le_of_ble_eq_true rfl) (by kernel_rfl) rfl ?_); intro w9 new hnew hm; simp only [setAll, overlay] at hnew; subst hnew; simp only [List.set_cons_zero, List.set_cons_succ] at hm; clear HM; have HM := Lib.hid hm; clear hm; refine hK _ _ ?_; clear hK K; try simp only [Act.put, List.setIfInBounds_toArray, List.set_cons_zero, List.set_cons_succ]) | (with_reducible refine wpl_box (ty := 57) (fun K hK => ?_); refine wp_box_ma _ _ rfl HM.out _ rfl ?_; intro w9 kb9 hm; clear HM; have HM := Lib.hid hm; clear hm; refine hK _ _ ?_; clear hK K; try simp only [Act.put, List.setIfInBounds_toArray, List.set_cons_zero, List.set_cons_succ]) | fail)
  have r1 : Hid ((w9.alloc (.cells #[] 5)).ownsRow w9.heap.size 5 1 (.slice (some ⟨w9.heap.size, 0, none⟩) 0 0) 0 (kv .u8 [])) := Lib.hid (own_new w9 5 1)
  have r2 : Hid (Reads (w9.alloc (.cells #[] 5)) w1e.heap.size 1 A1 n1 (kv .u8 (enc r))) := Lib.hid (HR1.out.below ((HM.out.new 5 []).to_below (fun _ _ h => h)))
  have r3 : Hid (n1 ≤ 100) := HN1
  go_wp2_with (first
    | (at_builtin
       refine wpList_append_any _ rfl (.tmp 43) (.tmp 44) _ rfl w9.heap.size 5 i0 _ 1 1 Try.underlying58 hi0 hz0 hz1 hz2 rfl (by omega) (.slice (some ⟨w9.heap.size, 0, none⟩) 0 0) _ (kv .u8 []) rfl r1.out _ A1 n1 c1 (kv .u8 (enc r)) rfl r2.out kv_one (by have := r3.out; simp only [maxLen]; omega) (by have := r3.out; omega) (by simp) ?_
       intro v1 w1 hown1 hg1 hat1
       rw [kv_append, Nat.zero_add, List.nil_append] at hown1
       obtain ⟨A2, c2, rfl, hr2⟩ := own_slice hown1
       have q2 : Hid (Below w9.heap.size w9 w1) := Lib.hid ((((Only.refl (fun i => w9.heap.size ≤ i) w9).alloc _).trans (Only.of_grown (S := fun i => w9.heap.size ≤ i) hg1 (fun i hi => by simp [Value.ownBlock] at hi; omega)) (fun _ _ h => h)).below (Nat.le_refl _) (fun i hi h => by omega))
       have HR2 := Lib.hid (row8_reads hown1)
       have hm := HM.out.below q2.out
       clear HM
       have HM := Lib.hid hm
       have HN2 : Hid (n1 ≤ c2 ∧ c2 ≤ maxLen) := Lib.hid (own_caps2 hown1)
       clear hown1 hg1 hat1 hr2 hm
       try simp only [Act.put, List.setIfInBounds_toArray, List.set_cons_zero, List.set_cons_succ])
    | fail)
  clear r1 r2 r3
  with_reducible refine (dec_any A2 n1 c2 (enc r) w1 HR2.out HOK.out HN2.out).mono ?_
  rintro e w2 ⟨he, hb2⟩
  rw [HDE.out] at he
  have he2 : e = .returned (.tuple #[.agg #[.int .i64 x.k, .int .i64 x.ck, .int .i64 x.pi, .int .i64 x.px, .int .i64 x.py, .int .i64 x.si, .int .i64 x.sl, .int .i64 x.sh, .int .i64 x.q.qk, .int .i64 x.q.b1, .int .i64 x.q.b2, .int .i64 x.q.b3, .int .i64 x.q.b4, .int .i64 x.q.w1, .int .i64 x.q.w2, .int .i64 x.q.w3, .int .i64 x.q.x, .int .i64 x.q.h], .int .i64 0]) := he
  clear he
  subst he2
  have hm := HM.out.below hb2
  clear HM hb2 HR2 HN2 hi0 hz0 hz1 hz2
  have HM := Lib.hid hm
  clear hm
  go_upto_region 9 with (first | (go_at_call 36; (with_reducible refine (HSM.out _).mono ?_); rintro e wx ⟨rfl, hb⟩; have hm := HM.out.below hb; clear HM; have HM := Lib.hid hm; clear hm hb) | (with_reducible refine wpl_alloc (d := some 8) (ty := 57) (fun K hK => ?_); refine wp_alloc_ma 57 rfl HM.out [.int .i64 0, .int .i64 0, .int .i64 0, .int .i64 0, .int .i64 0, .int .i64 0, .int .i64 0, .int .i64 0, .int .i64 0, .int .i64 0, .int .i64 0, .int .i64 0, .int .i64 0, .int .i64 0, .int .i64 0, .int .i64 0, .int .i64 0, .int .i64 0] (by kernel_rfl) ?_; intro w9 k8 hm; clear HM; have HM := Lib.hid hm; clear hm; refine hK _ _ ?_; clear hK K; try simp only [Act.put, List.setIfInBounds_toArray, List.set_cons_zero, List.set_cons_succ]) | (with_reducible refine wpl_load (ty := 57) (fun K hK => ?_); refine wp_load_at _ _ rfl _ _ rfl ?_; (first | refine LoadAt.row (n := 18) HM.out 0 rfl (by kernel_rfl) (by kernel_rfl) (Nat.le_of_ble_eq_true rfl) ?_ | refine LoadAt.row (n := 18) HM.out 1 rfl (by kernel_rfl) (by kernel_rfl) (Nat.le_of_ble_eq_true rfl) ?_ | refine LoadAt.row (n := 18) HM.out 2 rfl (by kernel_rfl) (by kernel_rfl) (Nat.le_of_ble_eq_true rfl) ?_ | refine LoadAt.row (n := 18) HM.out 3 rfl (by kernel_rfl) (by kernel_rfl) (Nat.le_of_ble_eq_true rfl) ?_); intro r hr; simp only [List.drop_zero, List.drop_succ_cons, List.take_zero, List.take_succ_cons, List.take_nil] at hr; subst hr; refine hK _ _ ?_; clear hK K; try simp only [Act.put, List.setIfInBounds_toArray, List.set_cons_zero, List.set_cons_succ]) | (with_reducible refine wpl_load (fun K hK => ?_); refine wp_load_at _ _ rfl _ _ rfl ?_; (first | refine LoadAt.one HM.out 0 rfl (by kernel_rfl) (Nat.le_of_ble_eq_true rfl) ?_ | refine LoadAt.one HM.out 1 rfl (by kernel_rfl) (Nat.le_of_ble_eq_true rfl) ?_ | refine LoadAt.one HM.out 2 rfl (by kernel_rfl) (Nat.le_of_ble_eq_true rfl) ?_ | refine LoadAt.one HM.out 3 rfl (by kernel_rfl) (Nat.le_of_ble_eq_true rfl) ?_); intro v hv; simp only [List.getElem?_cons_zero, List.getElem?_cons_succ, Option.some.injEq] at hv; subst hv; refine hK _ _ ?_; clear hK K; try simp only [Act.put, List.setIfInBounds_toArray, List.set_cons_zero, List.set_cons_succ]) | (with_reducible refine wpl_store (ty := 57) (fun K hK => ?_); refine wp_store_at _ _ _ rfl _ _ rfl (.agg (List.toArray _)) rfl ?_; (first | refine StoreAt.row HM.out 0 rfl (Nat.le_of_ble_eq_true rfl) (by kernel_rfl) rfl ?_ | refine StoreAt.row HM.out 1 rfl (Nat.le_of_ble_eq_true rfl) (by kernel_rfl) rfl ?_ | refine StoreAt.row HM.out 2 rfl (Nat.le_of_ble_eq_true rfl) (by kernel_rfl) rfl ?_ | refine StoreAt.row HM.out 3 rfl (Nat.le_of_ble_eq_true rfl) (by kernel_rfl) rfl ?_); intro w9 new hnew hm; simp only [setAll, overlay] at hnew; subst hnew; simp only [List.set_cons_zero, List.set_cons_succ] at hm; clear HM; have HM := Lib.hid hm; clear hm; refine hK _ _ ?_; clear hK K; try simp only [Act.put, List.setIfInBounds_toArray, List.set_cons_zero, List.set_cons_succ]) | (with_reducible refine wpl_box (ty := 57) (fun K hK => ?_); refine wp_box_ma _ _ rfl HM.out _ rfl ?_; intro w9 kb9 hm; clear HM; have HM := Lib.hid hm; clear hm; refine hK _ _ ?_; clear hK K; try simp only [Act.put, List.setIfInBounds_toArray, List.set_cons_zero, List.set_cons_succ]) | fail)
  refine wp_region_noPanic ?_
  refine wp_region_held_drew (S := (fun w' => Blk w' ks 57 #[.int .i64 s.k, .int .i64 s.ck, .int .i64 s.pi, .int .i64 s.px, .int .i64 s.py, .int .i64 s.si, .int .i64 s.sl, .int .i64 s.sh, .int .i64 s.q.qk, .int .i64 s.q.b1, .int .i64 s.q.b2, .int .i64 s.q.b3, .int .i64 s.q.b4, .int .i64 s.q.w1, .int .i64 s.q.w2, .int .i64 s.q.w3, .int .i64 s.q.x, .int .i64 s.q.h] ∧ Blk w' k7 57 #[.int .i64 x.k, .int .i64 x.ck, .int .i64 x.pi, .int .i64 x.px, .int .i64 x.py, .int .i64 x.si, .int .i64 x.sl, .int .i64 x.sh, .int .i64 x.q.qk, .int .i64 x.q.b1, .int .i64 x.q.b2, .int .i64 x.q.b3, .int .i64 x.q.b4, .int .i64 x.q.w1, .int .i64 x.q.w2, .int .i64 x.q.w3, .int .i64 x.q.x, .int .i64 x.q.h])) (by kernel_rfl) ?_ (fun hHeld => ?_)
  · exact ⟨HM.out.at_ 2 rfl, HM.out.at_ 1 rfl⟩
  have hm := HM.out.drew
  clear HM
  have HM := Lib.hid hm
  clear hm
  refine wpAnyH_take (i := 0) (oi := ⟨_, _, _, _, _, _⟩) (v := ?_) rfl (by kernel_rfl) (by kernel_rfl) (by kernel_rfl) (fun _ _ _ h => h) (Or.inl ⟨by rfl, ?_⟩) (by assumption) ?_
  rotate_left
  · intro w hSw; (try dsimp only at hSw); go_split_ands; go_simp; try with_reducible rfl
  try simp only [Act.put, List.setIfInBounds_toArray, List.set_cons_zero, List.set_cons_succ]
  refine wpAnyH_take (i := 1) (oi := ⟨_, _, _, _, _, _⟩) (v := .agg #[.int .i64 s.k, .int .i64 s.ck, .int .i64 s.pi, .int .i64 s.px, .int .i64 s.py, .int .i64 s.si, .int .i64 s.sl, .int .i64 s.sh, .int .i64 s.q.qk, .int .i64 s.q.b1, .int .i64 s.q.b2, .int .i64 s.q.b3, .int .i64 s.q.b4, .int .i64 s.q.w1, .int .i64 s.q.w2, .int .i64 s.q.w3, .int .i64 s.q.x, .int .i64 s.q.h]) rfl (by kernel_rfl) (by kernel_rfl) (by kernel_rfl) (fun _ _ _ h => h) (yieldsIf_load_mid (by rfl) 57 (.tmp 3) rfl _ 0 rfl [.int .i64 s.k, .int .i64 s.ck, .int .i64 s.pi, .int .i64 s.px, .int .i64 s.py, .int .i64 s.si, .int .i64 s.sl, .int .i64 s.sh, .int .i64 s.q.qk, .int .i64 s.q.b1, .int .i64 s.q.b2, .int .i64 s.q.b3, .int .i64 s.q.b4, .int .i64 s.q.w1, .int .i64 s.q.w2, .int .i64 s.q.w3, .int .i64 s.q.x, .int .i64 s.q.h] _ (fun w h => range_of_blk h.1 0 18 _ rfl) Try.underlying57 rfl (by kernel_rfl)) (by assumption) ?_
  try simp only [Act.put, List.setIfInBounds_toArray, List.set_cons_zero, List.set_cons_succ]
  refine wpAnyH_ready (rs := [2]) (by kernel_rfl) (by simp) ?_
  refine AllReadyH.cons (o := ⟨_, _, _, _, _, _⟩) rfl (fun K hK => ?_) AllReadyH.nil
  go_simp
  go_at_call 31
  refine (HGS.out _).mono ?_
  rintro e wx ⟨rfl, hb⟩
  have hm := HM.out.below hb
  clear HM hb
  have HM := Lib.hid hm
  clear hm
  refine hK.out _ _ ?_ (fun hHeld => ?_)
  · exact ⟨HM.out.at_ 2 rfl, HM.out.at_ 1 rfl⟩
  clear hK K
  try simp only [Act.put, List.setIfInBounds_toArray, List.set_cons_zero, List.set_cons_succ]
  refine wpAnyH_take (i := 3) (oi := ⟨_, _, _, _, _, _⟩) (v := ?_) rfl (by kernel_rfl) (by kernel_rfl) (by kernel_rfl) (fun _ _ _ h => h) (Or.inl ⟨by rfl, ?_⟩) (by assumption) ?_
  rotate_left
  · intro w hSw; (try dsimp only at hSw); go_split_ands; go_simp; try with_reducible rfl
  try simp only [Act.put, List.setIfInBounds_toArray, List.set_cons_zero, List.set_cons_succ]
  refine wpAnyH_take (i := 4) (oi := ⟨_, _, _, _, _, _⟩) (v := .agg #[.int .i64 s.k, .int .i64 s.ck, .int .i64 s.pi, .int .i64 s.px, .int .i64 s.py, .int .i64 s.si, .int .i64 s.sl, .int .i64 s.sh, .int .i64 s.q.qk, .int .i64 s.q.b1, .int .i64 s.q.b2, .int .i64 s.q.b3, .int .i64 s.q.b4, .int .i64 s.q.w1, .int .i64 s.q.w2, .int .i64 s.q.w3, .int .i64 s.q.x, .int .i64 s.q.h]) rfl (by kernel_rfl) (by kernel_rfl) (by kernel_rfl) (fun _ _ _ h => h) (yieldsIf_load_mid (by rfl) 57 (.tmp 3) rfl _ 0 rfl [.int .i64 s.k, .int .i64 s.ck, .int .i64 s.pi, .int .i64 s.px, .int .i64 s.py, .int .i64 s.si, .int .i64 s.sl, .int .i64 s.sh, .int .i64 s.q.qk, .int .i64 s.q.b1, .int .i64 s.q.b2, .int .i64 s.q.b3, .int .i64 s.q.b4, .int .i64 s.q.w1, .int .i64 s.q.w2, .int .i64 s.q.w3, .int .i64 s.q.x, .int .i64 s.q.h] _ (fun w h => range_of_blk h.1 0 18 _ rfl) Try.underlying57 rfl (by kernel_rfl)) (by assumption) ?_
  try simp only [Act.put, List.setIfInBounds_toArray, List.set_cons_zero, List.set_cons_succ]
  refine wpAnyH_take (i := 6) (oi := ⟨_, _, _, _, _, _⟩) (v := .agg #[.int .i64 x.k, .int .i64 x.ck, .int .i64 x.pi, .int .i64 x.px, .int .i64 x.py, .int .i64 x.si, .int .i64 x.sl, .int .i64 x.sh, .int .i64 x.q.qk, .int .i64 x.q.b1, .int .i64 x.q.b2, .int .i64 x.q.b3, .int .i64 x.q.b4, .int .i64 x.q.w1, .int .i64 x.q.w2, .int .i64 x.q.w3, .int .i64 x.q.x, .int .i64 x.q.h]) rfl (by kernel_rfl) (by kernel_rfl) (by kernel_rfl) (fun _ _ _ h => h) (yieldsIf_load_mid (by rfl) 57 (.tmp 7) rfl _ 0 rfl [.int .i64 x.k, .int .i64 x.ck, .int .i64 x.pi, .int .i64 x.px, .int .i64 x.py, .int .i64 x.si, .int .i64 x.sl, .int .i64 x.sh, .int .i64 x.q.qk, .int .i64 x.q.b1, .int .i64 x.q.b2, .int .i64 x.q.b3, .int .i64 x.q.b4, .int .i64 x.q.w1, .int .i64 x.q.w2, .int .i64 x.q.w3, .int .i64 x.q.x, .int .i64 x.q.h] _ (fun w h => range_of_blk h.2 0 18 _ rfl) Try.underlying57 rfl (by kernel_rfl)) (by assumption) ?_
  try simp only [Act.put, List.setIfInBounds_toArray, List.set_cons_zero, List.set_cons_succ]
  refine wpAnyH_ready (rs := [5]) (by kernel_rfl) (by simp) ?_
  refine AllReadyH.cons (o := ⟨_, _, _, _, _, _⟩) rfl (fun K hK => ?_) AllReadyH.nil
  go_simp
  go_at_call 34
  refine (HOS.out _).mono ?_
  rintro e wx ⟨rfl, hb⟩
  have hm := HM.out.below hb
  clear HM hb
  have HM := Lib.hid hm
  clear hm
  refine hK.out _ _ ?_ (fun hHeld => ?_)
  · exact ⟨HM.out.at_ 2 rfl, HM.out.at_ 1 rfl⟩
  clear hK K
  try simp only [Act.put, List.setIfInBounds_toArray, List.set_cons_zero, List.set_cons_succ]
  refine wpAnyH_take (i := 7) (oi := ⟨_, _, _, _, _, _⟩) (v := ?_) rfl (by kernel_rfl) (by kernel_rfl) (by kernel_rfl) (fun _ _ _ h => h) (Or.inl ⟨by rfl, ?_⟩) (by assumption) ?_
  rotate_left
  · intro w hSw; (try dsimp only at hSw); go_split_ands; go_simp; try with_reducible rfl
  try simp only [Act.put, List.setIfInBounds_toArray, List.set_cons_zero, List.set_cons_succ]
  refine wpAnyH_take (i := 8) (oi := ⟨_, _, _, _, _, _⟩) (v := ?_) rfl (by kernel_rfl) (by kernel_rfl) (by kernel_rfl) (fun _ _ _ h => h) (Or.inl ⟨by rfl, ?_⟩) (by assumption) ?_
  rotate_left
  · intro w hSw; (try dsimp only at hSw); go_split_ands; go_simp; try with_reducible rfl
  try simp only [Act.put, List.setIfInBounds_toArray, List.set_cons_zero, List.set_cons_succ]
  refine wpAnyH_take (i := 9) (oi := ⟨_, _, _, _, _, _⟩) (v := ?_) rfl (by kernel_rfl) (by kernel_rfl) (by kernel_rfl) (fun _ _ _ h => h) (Or.inl ⟨by rfl, ?_⟩) (by assumption) ?_
  rotate_left
  · intro w hSw; (try dsimp only at hSw); go_split_ands; go_simp; try with_reducible rfl
  try simp only [Act.put, List.setIfInBounds_toArray, List.set_cons_zero, List.set_cons_succ]
  refine wpAnyH_done (by kernel_rfl) ?_ _
  refine NoPanic.normal ?_
  skip
  go_upto_region 11 with (first | (with_reducible refine wpl_load (ty := 57) (fun K hK => ?_); refine wp_load_at _ _ rfl _ _ rfl ?_; (first | refine LoadAt.row (n := 18) HM.out 0 rfl (by kernel_rfl) (by kernel_rfl) (Nat.le_of_ble_eq_true rfl) ?_ | refine LoadAt.row (n := 18) HM.out 1 rfl (by kernel_rfl) (by kernel_rfl) (Nat.le_of_ble_eq_true rfl) ?_ | refine LoadAt.row (n := 18) HM.out 2 rfl (by kernel_rfl) (by kernel_rfl) (Nat.le_of_ble_eq_true rfl) ?_ | refine LoadAt.row (n := 18) HM.out 3 rfl (by kernel_rfl) (by kernel_rfl) (Nat.le_of_ble_eq_true rfl) ?_); intro r hr; simp only [List.drop_zero, List.drop_succ_cons, List.take_zero, List.take_succ_cons, List.take_nil] at hr; subst hr; refine hK _ _ ?_; clear hK K; try simp only [Act.put, List.setIfInBounds_toArray, List.set_cons_zero, List.set_cons_succ]) | (with_reducible refine wpl_load (fun K hK => ?_); refine wp_load_at _ _ rfl _ _ rfl ?_; (first | refine LoadAt.one HM.out 0 rfl (by kernel_rfl) (Nat.le_of_ble_eq_true rfl) ?_ | refine LoadAt.one HM.out 1 rfl (by kernel_rfl) (Nat.le_of_ble_eq_true rfl) ?_ | refine LoadAt.one HM.out 2 rfl (by kernel_rfl) (Nat.le_of_ble_eq_true rfl) ?_ | refine LoadAt.one HM.out 3 rfl (by kernel_rfl) (Nat.le_of_ble_eq_true rfl) ?_); intro v hv; simp only [List.getElem?_cons_zero, List.getElem?_cons_succ, Option.some.injEq] at hv; subst hv; refine hK _ _ ?_; clear hK K; try simp only [Act.put, List.setIfInBounds_toArray, List.set_cons_zero, List.set_cons_succ]) | (with_reducible refine wpl_store (ty := 57) (fun K hK => ?_); refine wp_store_at _ _ _ rfl _ _ rfl (.agg (List.toArray _)) rfl ?_; (first | refine StoreAt.row HM.out 0 rfl (Nat.le_of_ble_eq_true rfl) (by kernel_rfl) rfl ?_ | refine StoreAt.row HM.out 1 rfl (Nat.le_of_ble_eq_true rfl) (by kernel_rfl) rfl ?_ | refine StoreAt.row HM.out 2 rfl (Nat.le_of_ble_eq_true rfl) (by kernel_rfl) rfl ?_ | refine StoreAt.row HM.out 3 rfl (Nat.le_of_ble_eq_true rfl) (by kernel_rfl) rfl ?_); intro w9 new hnew hm; simp only [setAll, overlay] at hnew; subst hnew; simp only [List.set_cons_zero, List.set_cons_succ] at hm; clear HM; have HM := Lib.hid hm; clear hm; refine hK _ _ ?_; clear hK K; try simp only [Act.put, List.setIfInBounds_toArray, List.set_cons_zero, List.set_cons_succ]) | (with_reducible refine wpl_box (ty := 57) (fun K hK => ?_); refine wp_box_ma _ _ rfl HM.out _ rfl ?_; intro w9 kb9 hm; clear HM; have HM := Lib.hid hm; clear hm; refine hK _ _ ?_; clear hK K; try simp only [Act.put, List.setIfInBounds_toArray, List.set_cons_zero, List.set_cons_succ]) | fail)
  refine wp_region_noPanic ?_
  refine wp_region_held_drew (S := (fun w' => (convert 58 9 (.slice A1 n1 c1)).run Try.prog w' = .ok (.string S1) w' ∧ Blk w' kr 57 #[.int .i64 r.k, .int .i64 r.ck, .int .i64 r.pi, .int .i64 r.px, .int .i64 r.py, .int .i64 r.si, .int .i64 r.sl, .int .i64 r.sh, .int .i64 r.q.qk, .int .i64 r.q.b1, .int .i64 r.q.b2, .int .i64 r.q.b3, .int .i64 r.q.b4, .int .i64 r.q.w1, .int .i64 r.q.w2, .int .i64 r.q.w3, .int .i64 r.q.x, .int .i64 r.q.h] ∧ Blk w' k7 57 #[.int .i64 x.k, .int .i64 x.ck, .int .i64 x.pi, .int .i64 x.px, .int .i64 x.py, .int .i64 x.si, .int .i64 x.sl, .int .i64 x.sh, .int .i64 x.q.qk, .int .i64 x.q.b1, .int .i64 x.q.b2, .int .i64 x.q.b3, .int .i64 x.q.b4, .int .i64 x.q.w1, .int .i64 x.q.w2, .int .i64 x.q.w3, .int .i64 x.q.x, .int .i64 x.q.h] ∧ Blk w' k8 57 #[.int .i64 x.k, .int .i64 x.ck, .int .i64 x.pi, .int .i64 x.px, .int .i64 x.py, .int .i64 x.si, .int .i64 x.sl, .int .i64 x.sh, .int .i64 x.q.qk, .int .i64 x.q.b1, .int .i64 x.q.b2, .int .i64 x.q.b3, .int .i64 x.q.b4, .int .i64 x.q.w1, .int .i64 x.q.w2, .int .i64 x.q.w3, .int .i64 x.q.x, .int .i64 x.q.h])) (by kernel_rfl) ?_ (fun hHeld => ?_)
  · exact ⟨HC5.out _ (HM.out.to_below (fun _ _ h => h)).drew, HM.out.at_ 3 rfl, HM.out.at_ 1 rfl, HM.out.at_ 0 rfl⟩
  have hm := HM.out.drew
  clear HM
  have HM := Lib.hid hm
  clear hm
  refine wpAnyH_take (i := 0) (oi := ⟨_, _, _, _, _, _⟩) (v := ?_) rfl (by kernel_rfl) (by kernel_rfl) (by kernel_rfl) (fun _ _ _ h => h) (Or.inl ⟨by rfl, ?_⟩) (by assumption) ?_
  rotate_left
  · intro w hSw; (try dsimp only at hSw); go_split_ands; go_simp; try with_reducible rfl
  try simp only [Act.put, List.setIfInBounds_toArray, List.set_cons_zero, List.set_cons_succ]
  refine wpAnyH_take (i := 1) (oi := ⟨_, _, _, _, _, _⟩) (v := ?_) rfl (by kernel_rfl) (by kernel_rfl) (by kernel_rfl) (fun _ _ _ h => h) (Or.inl ⟨by rfl, ?_⟩) (by assumption) ?_
  rotate_left
  · intro w hSw; (try dsimp only at hSw); go_split_ands; go_simp; try with_reducible rfl
  try simp only [Act.put, List.setIfInBounds_toArray, List.set_cons_zero, List.set_cons_succ]
  refine wpAnyH_take (i := 2) (oi := ⟨_, _, _, _, _, _⟩) (v := ?_) rfl (by kernel_rfl) (by kernel_rfl) (by kernel_rfl) (fun _ _ _ h => h) (Or.inl ⟨by rfl, ?_⟩) (by assumption) ?_
  rotate_left
  · intro w hSw; (try dsimp only at hSw); go_split_ands; go_simp; try with_reducible rfl
  try simp only [Act.put, List.setIfInBounds_toArray, List.set_cons_zero, List.set_cons_succ]
  refine wpAnyH_take (i := 3) (oi := ⟨_, _, _, _, _, _⟩) (v := ?_) rfl (by kernel_rfl) (by kernel_rfl) (by kernel_rfl) (fun _ _ _ h => h) (Or.inl ⟨by rfl, ?_⟩) (by assumption) ?_
  rotate_left
  · intro w hSw; (try dsimp only at hSw); go_split_ands; go_simp; try with_reducible rfl
  try simp only [Act.put, List.setIfInBounds_toArray, List.set_cons_zero, List.set_cons_succ]
  refine wpAnyH_take (i := 4) (oi := ⟨_, _, _, _, _, _⟩) (v := ?_) rfl (by kernel_rfl) (by kernel_rfl) (by kernel_rfl) (fun _ _ _ h => h) (Or.inl ⟨by rfl, ?_⟩) (by assumption) ?_
  rotate_left
  · intro w hSw; (try dsimp only at hSw); go_split_ands; go_simp; try with_reducible rfl
  try simp only [Act.put, List.setIfInBounds_toArray, List.set_cons_zero, List.set_cons_succ]
  refine wpAnyH_take (i := 5) (oi := ⟨_, _, _, _, _, _⟩) (v := .agg #[.int .i64 r.k, .int .i64 r.ck, .int .i64 r.pi, .int .i64 r.px, .int .i64 r.py, .int .i64 r.si, .int .i64 r.sl, .int .i64 r.sh, .int .i64 r.q.qk, .int .i64 r.q.b1, .int .i64 r.q.b2, .int .i64 r.q.b3, .int .i64 r.q.b4, .int .i64 r.q.w1, .int .i64 r.q.w2, .int .i64 r.q.w3, .int .i64 r.q.x, .int .i64 r.q.h]) rfl (by kernel_rfl) (by kernel_rfl) (by kernel_rfl) (fun _ _ _ h => h) (yieldsIf_load_mid (by rfl) 57 (.tmp 2) rfl _ 0 rfl [.int .i64 r.k, .int .i64 r.ck, .int .i64 r.pi, .int .i64 r.px, .int .i64 r.py, .int .i64 r.si, .int .i64 r.sl, .int .i64 r.sh, .int .i64 r.q.qk, .int .i64 r.q.b1, .int .i64 r.q.b2, .int .i64 r.q.b3, .int .i64 r.q.b4, .int .i64 r.q.w1, .int .i64 r.q.w2, .int .i64 r.q.w3, .int .i64 r.q.x, .int .i64 r.q.h] _ (fun w h => range_of_blk h.2.1 0 18 _ rfl) Try.underlying57 rfl (by kernel_rfl)) (by assumption) ?_
  try simp only [Act.put, List.setIfInBounds_toArray, List.set_cons_zero, List.set_cons_succ]
  refine wpAnyH_ready (rs := [6]) (by kernel_rfl) (by simp) ?_
  refine AllReadyH.cons (o := ⟨_, _, _, _, _, _⟩) rfl (fun K hK => ?_) AllReadyH.nil
  go_simp
  go_at_call 37
  refine (HE.out _).mono ?_
  rintro e wx ⟨AE, nE, cE, rfl, hre, hb⟩
  have hm := HM.out.below hb
  clear HM hb
  have HM := Lib.hid hm
  clear hm
  have HRE := Lib.hid hre
  clear hre
  refine hK.out _ _ ?_ (fun hHeld => ?_)
  · exact ⟨HC5.out _ (HM.out.to_below (fun _ _ h => h)), HM.out.at_ 3 rfl, HM.out.at_ 1 rfl, HM.out.at_ 0 rfl⟩
  clear hK K
  try simp only [Act.put, List.setIfInBounds_toArray, List.set_cons_zero, List.set_cons_succ]
  refine wpAnyH_ready (rs := [7]) (by kernel_rfl) (by simp) ?_
  refine AllReadyH.cons (o := ⟨_, _, _, _, _, _⟩) rfl (fun K hK => ?_) AllReadyH.nil
  have hcv := conv_str (c := cE) HRE.out
  rw [HSE.out] at hcv
  go_simp
  refine hK.out _ _ ?_ (fun hHeld => ?_)
  · exact ⟨HC5.out _ (HM.out.to_below (fun _ _ h => h)), HM.out.at_ 3 rfl, HM.out.at_ 1 rfl, HM.out.at_ 0 rfl⟩
  clear hK K
  try simp only [Act.put, List.setIfInBounds_toArray, List.set_cons_zero, List.set_cons_succ]
  refine wpAnyH_take (i := 8) (oi := ⟨_, _, _, _, _, _⟩) (v := ?_) rfl (by kernel_rfl) (by kernel_rfl) (by kernel_rfl) (fun _ _ _ h => h) (Or.inl ⟨by rfl, ?_⟩) (by assumption) ?_
  rotate_left
  · intro w hSw; (try dsimp only at hSw); go_split_ands; go_simp; try with_reducible rfl
  try simp only [Act.put, List.setIfInBounds_toArray, List.set_cons_zero, List.set_cons_succ]
  refine wpAnyH_take (i := 9) (oi := ⟨_, _, _, _, _, _⟩) (v := ?_) rfl (by kernel_rfl) (by kernel_rfl) (by kernel_rfl) (fun _ _ _ h => h) (Or.inl ⟨by rfl, ?_⟩) (by assumption) ?_
  rotate_left
  · intro w hSw; (try dsimp only at hSw); go_split_ands; go_simp; try with_reducible rfl
  try simp only [Act.put, List.setIfInBounds_toArray, List.set_cons_zero, List.set_cons_succ]
  refine wpAnyH_take (i := 10) (oi := ⟨_, _, _, _, _, _⟩) (v := ?_) rfl (by kernel_rfl) (by kernel_rfl) (by kernel_rfl) (fun _ _ _ h => h) (Or.inl ⟨by rfl, ?_⟩) (by assumption) ?_
  rotate_left
  · intro w hSw; (try dsimp only at hSw); go_split_ands; go_simp; try with_reducible rfl
  try simp only [Act.put, List.setIfInBounds_toArray, List.set_cons_zero, List.set_cons_succ]
  refine wpAnyH_take (i := 11) (oi := ⟨_, _, _, _, _, _⟩) (v := ?_) rfl (by kernel_rfl) (by kernel_rfl) (by kernel_rfl) (fun _ _ _ h => h) (Or.inl ⟨by rfl, ?_⟩) (by assumption) ?_
  rotate_left
  · intro w hSw; (try dsimp only at hSw); go_split_ands; go_simp; try with_reducible rfl
  try simp only [Act.put, List.setIfInBounds_toArray, List.set_cons_zero, List.set_cons_succ]
  refine wpAnyH_take (i := 12) (oi := ⟨_, _, _, _, _, _⟩) (v := ?_) rfl (by kernel_rfl) (by kernel_rfl) (by kernel_rfl) (fun _ _ _ h => h) (Or.inl ⟨by rfl, ?_⟩) (by assumption) ?_
  rotate_left
  · intro w hSw; (try dsimp only at hSw); go_split_ands; go_simp; try with_reducible rfl
  try simp only [Act.put, List.setIfInBounds_toArray, List.set_cons_zero, List.set_cons_succ]
  refine wpAnyH_take (i := 13) (oi := ⟨_, _, _, _, _, _⟩) (v := ?_) rfl (by kernel_rfl) (by kernel_rfl) (by kernel_rfl) (fun _ _ _ h => h) (Or.inl ⟨by rfl, ?_⟩) (by assumption) ?_
  rotate_left
  · intro w hSw; (try dsimp only at hSw); go_split_ands; go_simp; try with_reducible rfl
  try simp only [Act.put, List.setIfInBounds_toArray, List.set_cons_zero, List.set_cons_succ]
  refine wpAnyH_take (i := 14) (oi := ⟨_, _, _, _, _, _⟩) (v := ?_) rfl (by kernel_rfl) (by kernel_rfl) (by kernel_rfl) (fun _ _ _ h => h) (Or.inl ⟨by rfl, ?_⟩) (by assumption) ?_
  rotate_left
  · intro w hSw; (try dsimp only at hSw); go_split_ands; go_simp; try with_reducible rfl
  try simp only [Act.put, List.setIfInBounds_toArray, List.set_cons_zero, List.set_cons_succ]
  refine wpAnyH_take (i := 15) (oi := ⟨_, _, _, _, _, _⟩) (v := .agg #[.int .i64 x.k, .int .i64 x.ck, .int .i64 x.pi, .int .i64 x.px, .int .i64 x.py, .int .i64 x.si, .int .i64 x.sl, .int .i64 x.sh, .int .i64 x.q.qk, .int .i64 x.q.b1, .int .i64 x.q.b2, .int .i64 x.q.b3, .int .i64 x.q.b4, .int .i64 x.q.w1, .int .i64 x.q.w2, .int .i64 x.q.w3, .int .i64 x.q.x, .int .i64 x.q.h]) rfl (by kernel_rfl) (by kernel_rfl) (by kernel_rfl) (fun _ _ _ h => h) (yieldsIf_load_mid (by rfl) 57 (.tmp 8) rfl _ 0 rfl [.int .i64 x.k, .int .i64 x.ck, .int .i64 x.pi, .int .i64 x.px, .int .i64 x.py, .int .i64 x.si, .int .i64 x.sl, .int .i64 x.sh, .int .i64 x.q.qk, .int .i64 x.q.b1, .int .i64 x.q.b2, .int .i64 x.q.b3, .int .i64 x.q.b4, .int .i64 x.q.w1, .int .i64 x.q.w2, .int .i64 x.q.w3, .int .i64 x.q.x, .int .i64 x.q.h] _ (fun w h => range_of_blk h.2.2.2 0 18 _ rfl) Try.underlying57 rfl (by kernel_rfl)) (by assumption) ?_
  try simp only [Act.put, List.setIfInBounds_toArray, List.set_cons_zero, List.set_cons_succ]
  refine wpAnyH_take (i := 16) (oi := ⟨_, _, _, _, _, _⟩) (v := .agg #[.int .i64 x.k, .int .i64 x.ck, .int .i64 x.pi, .int .i64 x.px, .int .i64 x.py, .int .i64 x.si, .int .i64 x.sl, .int .i64 x.sh, .int .i64 x.q.qk, .int .i64 x.q.b1, .int .i64 x.q.b2, .int .i64 x.q.b3, .int .i64 x.q.b4, .int .i64 x.q.w1, .int .i64 x.q.w2, .int .i64 x.q.w3, .int .i64 x.q.x, .int .i64 x.q.h]) rfl (by kernel_rfl) (by kernel_rfl) (by kernel_rfl) (fun _ _ _ h => h) (yieldsIf_load_mid (by rfl) 57 (.tmp 7) rfl _ 0 rfl [.int .i64 x.k, .int .i64 x.ck, .int .i64 x.pi, .int .i64 x.px, .int .i64 x.py, .int .i64 x.si, .int .i64 x.sl, .int .i64 x.sh, .int .i64 x.q.qk, .int .i64 x.q.b1, .int .i64 x.q.b2, .int .i64 x.q.b3, .int .i64 x.q.b4, .int .i64 x.q.w1, .int .i64 x.q.w2, .int .i64 x.q.w3, .int .i64 x.q.x, .int .i64 x.q.h] _ (fun w h => range_of_blk h.2.2.1 0 18 _ rfl) Try.underlying57 rfl (by kernel_rfl)) (by assumption) ?_
  try simp only [Act.put, List.setIfInBounds_toArray, List.set_cons_zero, List.set_cons_succ]
  refine wpAnyH_take (i := 17) (oi := ⟨_, _, _, _, _, _⟩) (v := ?_) rfl (by kernel_rfl) (by kernel_rfl) (by kernel_rfl) (fun _ _ _ h => h) (Or.inl ⟨by rfl, ?_⟩) (by assumption) ?_
  rotate_left
  · intro w hSw; (try dsimp only at hSw); go_split_ands; go_simp; try with_reducible rfl
  try simp only [Act.put, List.setIfInBounds_toArray, List.set_cons_zero, List.set_cons_succ]
  refine wpAnyH_take (i := 18) (oi := ⟨_, _, _, _, _, _⟩) (v := ?_) rfl (by kernel_rfl) (by kernel_rfl) (by kernel_rfl) (fun _ _ _ h => h) (Or.inl ⟨by rfl, ?_⟩) (by assumption) ?_
  rotate_left
  · intro w hSw; (try dsimp only at hSw); go_split_ands; go_simp; try with_reducible rfl
  try simp only [Act.put, List.setIfInBounds_toArray, List.set_cons_zero, List.set_cons_succ]
  refine wpAnyH_take (i := 19) (oi := ⟨_, _, _, _, _, _⟩) (v := ?_) rfl (by kernel_rfl) (by kernel_rfl) (by kernel_rfl) (fun _ _ _ h => h) (Or.inl ⟨by rfl, ?_⟩) (by assumption) ?_
  rotate_left
  · intro w hSw; (try dsimp only at hSw); go_split_ands; go_simp; try with_reducible rfl
  try simp only [Act.put, List.setIfInBounds_toArray, List.set_cons_zero, List.set_cons_succ]
  refine wpAnyH_take (i := 20) (oi := ⟨_, _, _, _, _, _⟩) (v := .agg #[.int .i64 r.k, .int .i64 r.ck, .int .i64 r.pi, .int .i64 r.px, .int .i64 r.py, .int .i64 r.si, .int .i64 r.sl, .int .i64 r.sh, .int .i64 r.q.qk, .int .i64 r.q.b1, .int .i64 r.q.b2, .int .i64 r.q.b3, .int .i64 r.q.b4, .int .i64 r.q.w1, .int .i64 r.q.w2, .int .i64 r.q.w3, .int .i64 r.q.x, .int .i64 r.q.h]) rfl (by kernel_rfl) (by kernel_rfl) (by kernel_rfl) (fun _ _ _ h => h) (yieldsIf_load_mid (by rfl) 57 (.tmp 2) rfl _ 0 rfl [.int .i64 r.k, .int .i64 r.ck, .int .i64 r.pi, .int .i64 r.px, .int .i64 r.py, .int .i64 r.si, .int .i64 r.sl, .int .i64 r.sh, .int .i64 r.q.qk, .int .i64 r.q.b1, .int .i64 r.q.b2, .int .i64 r.q.b3, .int .i64 r.q.b4, .int .i64 r.q.w1, .int .i64 r.q.w2, .int .i64 r.q.w3, .int .i64 r.q.x, .int .i64 r.q.h] _ (fun w h => range_of_blk h.2.1 0 18 _ rfl) Try.underlying57 rfl (by kernel_rfl)) (by assumption) ?_
  try simp only [Act.put, List.setIfInBounds_toArray, List.set_cons_zero, List.set_cons_succ]
  refine wpAnyH_take (i := 22) (oi := ⟨_, _, _, _, _, _⟩) (v := .agg #[.int .i64 x.k, .int .i64 x.ck, .int .i64 x.pi, .int .i64 x.px, .int .i64 x.py, .int .i64 x.si, .int .i64 x.sl, .int .i64 x.sh, .int .i64 x.q.qk, .int .i64 x.q.b1, .int .i64 x.q.b2, .int .i64 x.q.b3, .int .i64 x.q.b4, .int .i64 x.q.w1, .int .i64 x.q.w2, .int .i64 x.q.w3, .int .i64 x.q.x, .int .i64 x.q.h]) rfl (by kernel_rfl) (by kernel_rfl) (by kernel_rfl) (fun _ _ _ h => h) (yieldsIf_load_mid (by rfl) 57 (.tmp 7) rfl _ 0 rfl [.int .i64 x.k, .int .i64 x.ck, .int .i64 x.pi, .int .i64 x.px, .int .i64 x.py, .int .i64 x.si, .int .i64 x.sl, .int .i64 x.sh, .int .i64 x.q.qk, .int .i64 x.q.b1, .int .i64 x.q.b2, .int .i64 x.q.b3, .int .i64 x.q.b4, .int .i64 x.q.w1, .int .i64 x.q.w2, .int .i64 x.q.w3, .int .i64 x.q.x, .int .i64 x.q.h] _ (fun w h => range_of_blk h.2.2.1 0 18 _ rfl) Try.underlying57 rfl (by kernel_rfl)) (by assumption) ?_
  try simp only [Act.put, List.setIfInBounds_toArray, List.set_cons_zero, List.set_cons_succ]
  refine wpAnyH_ready (rs := [21]) (by kernel_rfl) (by simp) ?_
  refine AllReadyH.cons (o := ⟨_, _, _, _, _, _⟩) rfl (fun K hK => ?_) AllReadyH.nil
  go_simp
  go_at_call 32
  refine (HOC.out _).mono ?_
  rintro e wx ⟨rfl, hb⟩
  have hm := HM.out.below hb
  clear HM hb
  have HM := Lib.hid hm
  clear hm
  refine hK.out _ _ ?_ (fun hHeld => ?_)
  · exact ⟨HC5.out _ (HM.out.to_below (fun _ _ h => h)), HM.out.at_ 3 rfl, HM.out.at_ 1 rfl, HM.out.at_ 0 rfl⟩
  clear hK K
  try simp only [Act.put, List.setIfInBounds_toArray, List.set_cons_zero, List.set_cons_succ]
  refine wpAnyH_take (i := 23) (oi := ⟨_, _, _, _, _, _⟩) (v := ?_) rfl (by kernel_rfl) (by kernel_rfl) (by kernel_rfl) (fun _ _ _ h => h) (Or.inl ⟨by rfl, ?_⟩) (by assumption) ?_
  rotate_left
  · intro w hSw; (try dsimp only at hSw); go_split_ands; go_simp; try with_reducible rfl
  try simp only [Act.put, List.setIfInBounds_toArray, List.set_cons_zero, List.set_cons_succ]
  refine wpAnyH_take (i := 24) (oi := ⟨_, _, _, _, _, _⟩) (v := ?_) rfl (by kernel_rfl) (by kernel_rfl) (by kernel_rfl) (fun _ _ _ h => h) (Or.inl ⟨by rfl, ?_⟩) (by assumption) ?_
  rotate_left
  · intro w hSw; (try dsimp only at hSw); go_split_ands; go_simp; try with_reducible rfl
  try simp only [Act.put, List.setIfInBounds_toArray, List.set_cons_zero, List.set_cons_succ]
  refine wpAnyH_take (i := 25) (oi := ⟨_, _, _, _, _, _⟩) (v := ?_) rfl (by kernel_rfl) (by kernel_rfl) (by kernel_rfl) (fun _ _ _ h => h) (Or.inl ⟨by rfl, ?_⟩) (by assumption) ?_
  rotate_left
  · intro w hSw; (try dsimp only at hSw); go_split_ands; go_simp; try with_reducible rfl
  try simp only [Act.put, List.setIfInBounds_toArray, List.set_cons_zero, List.set_cons_succ]
  refine wpAnyH_ready (rs := [26]) (by kernel_rfl) (by simp) ?_
  refine AllReadyH.cons (o := ⟨_, _, _, _, _, _⟩) rfl (fun K hK => ?_) AllReadyH.nil
  go_simp
  go_at_call 33
  refine (HLV.out _).mono ?_
  rintro e wx ⟨rfl, hb⟩
  have hm := HM.out.below hb
  clear HM hb
  have HM := Lib.hid hm
  clear hm
  refine hK.out _ _ ?_ (fun hHeld => ?_)
  · exact ⟨HC5.out _ (HM.out.to_below (fun _ _ h => h)), HM.out.at_ 3 rfl, HM.out.at_ 1 rfl, HM.out.at_ 0 rfl⟩
  clear hK K
  try simp only [Act.put, List.setIfInBounds_toArray, List.set_cons_zero, List.set_cons_succ]
  refine wpAnyH_take (i := 27) (oi := ⟨_, _, _, _, _, _⟩) (v := ?_) rfl (by kernel_rfl) (by kernel_rfl) (by kernel_rfl) (fun _ _ _ h => h) (Or.inl ⟨by rfl, ?_⟩) (by assumption) ?_
  rotate_left
  · intro w hSw; (try dsimp only at hSw); go_split_ands; go_simp; try with_reducible rfl
  try simp only [Act.put, List.setIfInBounds_toArray, List.set_cons_zero, List.set_cons_succ]
  refine wpAnyH_take (i := 28) (oi := ⟨_, _, _, _, _, _⟩) (v := ?_) rfl (by kernel_rfl) (by kernel_rfl) (by kernel_rfl) (fun _ _ _ h => h) (Or.inl ⟨by rfl, ?_⟩) (by assumption) ?_
  rotate_left
  · intro w hSw; (try dsimp only at hSw); go_split_ands; go_simp; try with_reducible rfl
  try simp only [Act.put, List.setIfInBounds_toArray, List.set_cons_zero, List.set_cons_succ]
  refine wpAnyH_done (by kernel_rfl) ?_ _
  refine NoPanic.normal ?_
  go_wp2_with fail
  go_ret
  exact ⟨rfl, HB0.out.trans ((HM.out.to_below (fun _ _ h => h)).mono HB0.out.size)⟩
set_option maxRecDepth 100000 in
set_option maxHeartbeats 8000000 in
theorem writes_gb (r s : Rq) (hgr : r.good = true) (hgs : s.good = false) (or : ROk r) (w : World) : Calls Try.prog 6 #[r.v, s.v] w fun e w' => e = .returned (.bool true) ∧ Below w.heap.size w w' := by
  have HE1 : Hid (∀ W, Calls Try.prog 29 #[.agg #[.int .i64 r.k, .int .i64 r.ck, .int .i64 r.pi, .int .i64 r.px, .int .i64 r.py, .int .i64 r.si, .int .i64 r.sl, .int .i64 r.sh, .int .i64 r.q.qk, .int .i64 r.q.b1, .int .i64 r.q.b2, .int .i64 r.q.b3, .int .i64 r.q.b4, .int .i64 r.q.w1, .int .i64 r.q.w2, .int .i64 r.q.w3, .int .i64 r.q.x, .int .i64 r.q.h]] W fun e w' => ∃ A n c, e = .returned (.tuple #[.slice A n c, .int .i64 0]) ∧ Reads w' w'.heap.size 1 A n (kv .u8 (enc r)) ∧ n ≤ 100 ∧ Below W.heap.size W w') := Lib.hid (fun W => enc_any r hgr or W)
  have HE : Hid (∀ W, Calls Try.prog 37 #[.agg #[.int .i64 r.k, .int .i64 r.ck, .int .i64 r.pi, .int .i64 r.px, .int .i64 r.py, .int .i64 r.si, .int .i64 r.sl, .int .i64 r.sh, .int .i64 r.q.qk, .int .i64 r.q.b1, .int .i64 r.q.b2, .int .i64 r.q.b3, .int .i64 r.q.b4, .int .i64 r.q.w1, .int .i64 r.q.w2, .int .i64 r.q.w3, .int .i64 r.q.x, .int .i64 r.q.h]] W fun e w' => ∃ A n c, e = .returned (.slice A n c) ∧ Reads w' w'.heap.size 1 A n (kv .u8 (enc r)) ∧ Below W.heap.size W w') := Lib.hid (fun W => (renc_any r hgr or W).mono fun e w' h => by obtain ⟨A, n, c, h1, h2, -, h4⟩ := h; exact ⟨A, n, c, h1, h2, h4⟩)
  have HC : Hid (∀ W, Calls Try.prog 30 #[.agg #[.int .i64 r.k, .int .i64 r.ck, .int .i64 r.pi, .int .i64 r.px, .int .i64 r.py, .int .i64 r.si, .int .i64 r.sl, .int .i64 r.sh, .int .i64 r.q.qk, .int .i64 r.q.b1, .int .i64 r.q.b2, .int .i64 r.q.b3, .int .i64 r.q.b4, .int .i64 r.q.w1, .int .i64 r.q.w2, .int .i64 r.q.w3, .int .i64 r.q.x, .int .i64 r.q.h]] W fun e w' => e = .returned (.bool true) ∧ Below W.heap.size W w') := Lib.hid (fun W => by have h := good_r r W; rw [hgr] at h; exact h)
  have HG : Hid (∀ W, Calls Try.prog 31 #[.agg #[.int .i64 r.k, .int .i64 r.ck, .int .i64 r.pi, .int .i64 r.px, .int .i64 r.py, .int .i64 r.si, .int .i64 r.sl, .int .i64 r.sh, .int .i64 r.q.qk, .int .i64 r.q.b1, .int .i64 r.q.b2, .int .i64 r.q.b3, .int .i64 r.q.b4, .int .i64 r.q.w1, .int .i64 r.q.w2, .int .i64 r.q.w3, .int .i64 r.q.x, .int .i64 r.q.h]] W fun e w' => e = .returned (.bool true) ∧ Below W.heap.size W w') := Lib.hid (fun W => by have h := rgood_r r W; rw [hgr] at h; exact h)
  have HGS : Hid (∀ W, Calls Try.prog 31 #[.agg #[.int .i64 s.k, .int .i64 s.ck, .int .i64 s.pi, .int .i64 s.px, .int .i64 s.py, .int .i64 s.si, .int .i64 s.sl, .int .i64 s.sh, .int .i64 s.q.qk, .int .i64 s.q.b1, .int .i64 s.q.b2, .int .i64 s.q.b3, .int .i64 s.q.b4, .int .i64 s.q.w1, .int .i64 s.q.w2, .int .i64 s.q.w3, .int .i64 s.q.x, .int .i64 s.q.h]] W fun e w' => e = .returned (.bool false) ∧ Below W.heap.size W w') := Lib.hid (fun W => by have h := rgood_r s W; rw [hgs] at h; exact h)
  obtain ⟨x, hx⟩ : ∃ x, x = r.only := ⟨_, rfl⟩
  have HOR : Hid (∀ W, Calls Try.prog 34 #[.agg #[.int .i64 r.k, .int .i64 r.ck, .int .i64 r.pi, .int .i64 r.px, .int .i64 r.py, .int .i64 r.si, .int .i64 r.sl, .int .i64 r.sh, .int .i64 r.q.qk, .int .i64 r.q.b1, .int .i64 r.q.b2, .int .i64 r.q.b3, .int .i64 r.q.b4, .int .i64 r.q.w1, .int .i64 r.q.w2, .int .i64 r.q.w3, .int .i64 r.q.x, .int .i64 r.q.h]] W fun e w' => e = .returned (.agg #[.int .i64 x.k, .int .i64 x.ck, .int .i64 x.pi, .int .i64 x.px, .int .i64 x.py, .int .i64 x.si, .int .i64 x.sl, .int .i64 x.sh, .int .i64 x.q.qk, .int .i64 x.q.b1, .int .i64 x.q.b2, .int .i64 x.q.b3, .int .i64 x.q.b4, .int .i64 x.q.w1, .int .i64 x.q.w2, .int .i64 x.q.w3, .int .i64 x.q.x, .int .i64 x.q.h]) ∧ Below W.heap.size W w') := Lib.hid (fun W => by have h := ronly_any r hgr W; rw [← hx] at h; exact h)
  have HOC : Hid (∀ W, Calls Try.prog 32 #[.agg #[.int .i64 r.k, .int .i64 r.ck, .int .i64 r.pi, .int .i64 r.px, .int .i64 r.py, .int .i64 r.si, .int .i64 r.sl, .int .i64 r.sh, .int .i64 r.q.qk, .int .i64 r.q.b1, .int .i64 r.q.b2, .int .i64 r.q.b3, .int .i64 r.q.b4, .int .i64 r.q.w1, .int .i64 r.q.w2, .int .i64 r.q.w3, .int .i64 r.q.x, .int .i64 r.q.h]] W fun e w' => e = .returned (.agg #[.int .i64 x.k, .int .i64 x.ck, .int .i64 x.pi, .int .i64 x.px, .int .i64 x.py, .int .i64 x.si, .int .i64 x.sl, .int .i64 x.sh, .int .i64 x.q.qk, .int .i64 x.q.b1, .int .i64 x.q.b2, .int .i64 x.q.b3, .int .i64 x.q.b4, .int .i64 x.q.w1, .int .i64 x.q.w2, .int .i64 x.q.w3, .int .i64 x.q.x, .int .i64 x.q.h]) ∧ Below W.heap.size W w') := Lib.hid (fun W => by have h := only_any r W; rw [← hx] at h; exact h)
  have hx9 : (decide (r.only = s.only)) = false := by
    rw [decide_eq_false_iff_not]
    intro h
    have h1 := only_good r hgr
    rw [h] at h1
    have h2 : s.only = Rq.zero := by unfold Rq.only; rw [hgs]; rfl
    rw [h2] at h1
    cases h1
  
  have HSM : Hid (∀ W, Calls Try.prog 36 #[.agg #[.int .i64 r.k, .int .i64 r.ck, .int .i64 r.pi, .int .i64 r.px, .int .i64 r.py, .int .i64 r.si, .int .i64 r.sl, .int .i64 r.sh, .int .i64 r.q.qk, .int .i64 r.q.b1, .int .i64 r.q.b2, .int .i64 r.q.b3, .int .i64 r.q.b4, .int .i64 r.q.w1, .int .i64 r.q.w2, .int .i64 r.q.w3, .int .i64 r.q.x, .int .i64 r.q.h], .agg #[.int .i64 s.k, .int .i64 s.ck, .int .i64 s.pi, .int .i64 s.px, .int .i64 s.py, .int .i64 s.si, .int .i64 s.sl, .int .i64 s.sh, .int .i64 s.q.qk, .int .i64 s.q.b1, .int .i64 s.q.b2, .int .i64 s.q.b3, .int .i64 s.q.b4, .int .i64 s.q.w1, .int .i64 s.q.w2, .int .i64 s.q.w3, .int .i64 s.q.x, .int .i64 s.q.h]] W fun e w' => e = .returned (.bool false) ∧ Below W.heap.size W w') := Lib.hid (fun W => by have h := same_any2 r s W; rw [hx9] at h; exact h)
  have HDE : Hid (dec (enc r) = some x) := Lib.hid (by rw [hx]; exact dec_enc r hgr or)
  have HOK : Hid (okK .u8 (enc r)) := Lib.hid (okb (enc_bytes r hgr))
  obtain ⟨S1, hS1⟩ : ∃ S1, strOfNums (enc r) = S1 := ⟨_, rfl⟩
  have HSE := Lib.hid hS1
  have hxx := eq_rr x x
  rw [decide_eq_true rfl] at hxx
  have HLV : Hid (∀ W, Calls Try.prog 33 #[] W fun e w' => e = .returned (.bool true) ∧ Below W.heap.size W w') := Lib.hid lives29
  obtain ⟨i0, hi0, hz0, hz1, hz2⟩ := u8_parts
  clear hgr hgs or hx hS1 hx9 
  have HM : Hid (Mem (fun _ => False) w [] w) := Lib.hid (Mem.start _ w)
  unfold Rq.v at *
  go_enter Try.func6, Try.ntmps6
  go_upto_region 2 with (first | (with_reducible refine wpl_box (d := some 2) (fun K hK => ?_); refine wp_box_ma _ _ rfl HM.out _ rfl ?_; intro w9 kr hm; clear HM; have HM := Lib.hid hm; clear hm; refine hK _ _ ?_; clear hK K; try simp only [Act.put, List.setIfInBounds_toArray, List.set_cons_zero, List.set_cons_succ]) | (with_reducible refine wpl_box (d := some 3) (fun K hK => ?_); refine wp_box_ma _ _ rfl HM.out _ rfl ?_; intro w9 ks hm; clear HM; have HM := Lib.hid hm; clear hm; refine hK _ _ ?_; clear hK K; try simp only [Act.put, List.setIfInBounds_toArray, List.set_cons_zero, List.set_cons_succ]) | (go_at_call 29; refine (HE1.out _).mono ?_; rintro e w1e ⟨A1, n1, c1, rfl, hr1, hn1, hb⟩; have HR1 := Lib.hid hr1; have HN1 := Lib.hid hn1; clear hr1 hn1; have hm := HM.out.below hb; clear HM; have HM := Lib.hid hm; clear hm hb) | (with_reducible refine wpl_load (ty := 57) (fun K hK => ?_); refine wp_load_at _ _ rfl _ _ rfl ?_; (first | refine LoadAt.row (n := 18) HM.out 0 rfl (by kernel_rfl) (by kernel_rfl) (Nat.le_of_ble_eq_true rfl) ?_ | refine LoadAt.row (n := 18) HM.out 1 rfl (by kernel_rfl) (by kernel_rfl) (Nat.le_of_ble_eq_true rfl) ?_); intro r hr; simp only [List.drop_zero, List.drop_succ_cons, List.take_zero, List.take_succ_cons, List.take_nil] at hr; subst hr; refine hK _ _ ?_; clear hK K; try simp only [Act.put, List.setIfInBounds_toArray, List.set_cons_zero, List.set_cons_succ]) | (with_reducible refine wpl_load (fun K hK => ?_); refine wp_load_at _ _ rfl _ _ rfl ?_; (first | refine LoadAt.one HM.out 0 rfl (by kernel_rfl) (Nat.le_of_ble_eq_true rfl) ?_ | refine LoadAt.one HM.out 1 rfl (by kernel_rfl) (Nat.le_of_ble_eq_true rfl) ?_); intro v hv; simp only [List.getElem?_cons_zero, List.getElem?_cons_succ, Option.some.injEq] at hv; subst hv; refine hK _ _ ?_; clear hK K; try simp only [Act.put, List.setIfInBounds_toArray, List.set_cons_zero, List.set_cons_succ]) | (with_reducible refine wpl_store (ty := 57) (fun K hK => ?_); refine wp_store_at _ _ _ rfl _ _ rfl (.agg (List.toArray _)) rfl ?_; (first | refine StoreAt.row HM.out 0 rfl (Nat.le_of_ble_eq_true rfl) (by kernel_rfl) rfl ?_ | refine StoreAt.row HM.out 1 rfl (Nat.le_of_ble_eq_true rfl) (by kernel_rfl) rfl ?_); intro w9 new hnew hm; simp only [setAll, overlay] at hnew; subst hnew; simp only [List.set_cons_zero, List.set_cons_succ] at hm; clear HM; have HM := Lib.hid hm; clear hm; refine hK _ _ ?_; clear hK K; try simp only [Act.put, List.setIfInBounds_toArray, List.set_cons_zero, List.set_cons_succ]) | (with_reducible refine wpl_box (ty := 57) (fun K hK => ?_); refine wp_box_ma _ _ rfl HM.out _ rfl ?_; intro w9 kb9 hm; clear HM; have HM := Lib.hid hm; clear hm; refine hK _ _ ?_; clear hK K; try simp only [Act.put, List.setIfInBounds_toArray, List.set_cons_zero, List.set_cons_succ]) | fail)
  have HB0 := Lib.hid (HM.out.to_below (fun _ _ h => h))
  have hm : Mem (fun _ => False) w1e [⟨ks, 57, [.int .i64 s.k, .int .i64 s.ck, .int .i64 s.pi, .int .i64 s.px, .int .i64 s.py, .int .i64 s.si, .int .i64 s.sl, .int .i64 s.sh, .int .i64 s.q.qk, .int .i64 s.q.b1, .int .i64 s.q.b2, .int .i64 s.q.b3, .int .i64 s.q.b4, .int .i64 s.q.w1, .int .i64 s.q.w2, .int .i64 s.q.w3, .int .i64 s.q.x, .int .i64 s.q.h], false⟩, ⟨kr, 57, [.int .i64 r.k, .int .i64 r.ck, .int .i64 r.pi, .int .i64 r.px, .int .i64 r.py, .int .i64 r.si, .int .i64 r.sl, .int .i64 r.sh, .int .i64 r.q.qk, .int .i64 r.q.b1, .int .i64 r.q.b2, .int .i64 r.q.b3, .int .i64 r.q.b4, .int .i64 r.q.w1, .int .i64 r.q.w2, .int .i64 r.q.w3, .int .i64 r.q.x, .int .i64 r.q.h], false⟩] w1e := HM.out.rebase
  clear HM
  have HM := Lib.hid hm
  clear hm
  have HC5 : Hid (∀ W, Below w1e.heap.size w1e W → (convert 58 9 (.slice A1 n1 c1)).run Try.prog W = .ok (.string S1) W) := Lib.hid (fun W hW => by rw [← HSE.out]; exact conv_str (HR1.out.below hW))
  refine wp_region_noPanic ?_
  refine wp_region_held_drew (S := (fun w' => Blk w' kr 57 #[.int .i64 r.k, .int .i64 r.ck, .int .i64 r.pi, .int .i64 r.px, .int .i64 r.py, .int .i64 r.si, .int .i64 r.sl, .int .i64 r.sh, .int .i64 r.q.qk, .int .i64 r.q.b1, .int .i64 r.q.b2, .int .i64 r.q.b3, .int .i64 r.q.b4, .int .i64 r.q.w1, .int .i64 r.q.w2, .int .i64 r.q.w3, .int .i64 r.q.x, .int .i64 r.q.h])) (by kernel_rfl) ?_ (fun hHeld => ?_)
  · exact HM.out.at_ 1 rfl
  have hm := HM.out.drew
  clear HM
  have HM := Lib.hid hm
  clear hm
  refine wpAnyH_take (i := 0) (oi := ⟨_, _, _, _, _, _⟩) (v := .agg #[.int .i64 r.k, .int .i64 r.ck, .int .i64 r.pi, .int .i64 r.px, .int .i64 r.py, .int .i64 r.si, .int .i64 r.sl, .int .i64 r.sh, .int .i64 r.q.qk, .int .i64 r.q.b1, .int .i64 r.q.b2, .int .i64 r.q.b3, .int .i64 r.q.b4, .int .i64 r.q.w1, .int .i64 r.q.w2, .int .i64 r.q.w3, .int .i64 r.q.x, .int .i64 r.q.h]) rfl (by kernel_rfl) (by kernel_rfl) (by kernel_rfl) (fun _ _ _ h => h) (yieldsIf_load_mid (by rfl) 57 (.tmp 2) rfl _ 0 rfl [.int .i64 r.k, .int .i64 r.ck, .int .i64 r.pi, .int .i64 r.px, .int .i64 r.py, .int .i64 r.si, .int .i64 r.sl, .int .i64 r.sh, .int .i64 r.q.qk, .int .i64 r.q.b1, .int .i64 r.q.b2, .int .i64 r.q.b3, .int .i64 r.q.b4, .int .i64 r.q.w1, .int .i64 r.q.w2, .int .i64 r.q.w3, .int .i64 r.q.x, .int .i64 r.q.h] _ (fun w h => range_of_blk h 0 18 _ rfl) Try.underlying57 rfl (by kernel_rfl)) (by assumption) ?_
  try simp only [Act.put, List.setIfInBounds_toArray, List.set_cons_zero, List.set_cons_succ]
  refine wpAnyH_take (i := 2) (oi := ⟨_, _, _, _, _, _⟩) (v := .agg #[.int .i64 r.k, .int .i64 r.ck, .int .i64 r.pi, .int .i64 r.px, .int .i64 r.py, .int .i64 r.si, .int .i64 r.sl, .int .i64 r.sh, .int .i64 r.q.qk, .int .i64 r.q.b1, .int .i64 r.q.b2, .int .i64 r.q.b3, .int .i64 r.q.b4, .int .i64 r.q.w1, .int .i64 r.q.w2, .int .i64 r.q.w3, .int .i64 r.q.x, .int .i64 r.q.h]) rfl (by kernel_rfl) (by kernel_rfl) (by kernel_rfl) (fun _ _ _ h => h) (yieldsIf_load_mid (by rfl) 57 (.tmp 2) rfl _ 0 rfl [.int .i64 r.k, .int .i64 r.ck, .int .i64 r.pi, .int .i64 r.px, .int .i64 r.py, .int .i64 r.si, .int .i64 r.sl, .int .i64 r.sh, .int .i64 r.q.qk, .int .i64 r.q.b1, .int .i64 r.q.b2, .int .i64 r.q.b3, .int .i64 r.q.b4, .int .i64 r.q.w1, .int .i64 r.q.w2, .int .i64 r.q.w3, .int .i64 r.q.x, .int .i64 r.q.h] _ (fun w h => range_of_blk h 0 18 _ rfl) Try.underlying57 rfl (by kernel_rfl)) (by assumption) ?_
  try simp only [Act.put, List.setIfInBounds_toArray, List.set_cons_zero, List.set_cons_succ]
  refine wpAnyH_ready (rs := [1]) (by kernel_rfl) (by simp) ?_
  refine AllReadyH.cons (o := ⟨_, _, _, _, _, _⟩) rfl (fun K hK => ?_) AllReadyH.nil
  go_simp
  go_at_call 30
  refine (HC.out _).mono ?_
  rintro e wx ⟨rfl, hb⟩
  have hm := HM.out.below hb
  clear HM hb
  have HM := Lib.hid hm
  clear hm
  refine hK.out _ _ ?_ (fun hHeld => ?_)
  · exact HM.out.at_ 1 rfl
  clear hK K
  try simp only [Act.put, List.setIfInBounds_toArray, List.set_cons_zero, List.set_cons_succ]
  refine wpAnyH_ready (rs := [3]) (by kernel_rfl) (by simp) ?_
  refine AllReadyH.cons (o := ⟨_, _, _, _, _, _⟩) rfl (fun K hK => ?_) AllReadyH.nil
  go_simp
  go_at_call 31
  refine (HG.out _).mono ?_
  rintro e wx ⟨rfl, hb⟩
  have hm := HM.out.below hb
  clear HM hb
  have HM := Lib.hid hm
  clear hm
  refine hK.out _ _ ?_ (fun hHeld => ?_)
  · exact HM.out.at_ 1 rfl
  clear hK K
  try simp only [Act.put, List.setIfInBounds_toArray, List.set_cons_zero, List.set_cons_succ]
  refine wpAnyH_take (i := 4) (oi := ⟨_, _, _, _, _, _⟩) (v := ?_) rfl (by kernel_rfl) (by kernel_rfl) (by kernel_rfl) (fun _ _ _ h => h) (Or.inl ⟨by rfl, ?_⟩) (by assumption) ?_
  rotate_left
  · intro w hSw; (try dsimp only at hSw); go_split_ands; go_simp; try with_reducible rfl
  try simp only [Act.put, List.setIfInBounds_toArray, List.set_cons_zero, List.set_cons_succ]
  refine wpAnyH_done (by kernel_rfl) ?_ _
  refine NoPanic.normal ?_
  skip
  go_upto_region 7 with (first | (go_at_call 31; (with_reducible refine (HG.out _).mono ?_); rintro e wx ⟨rfl, hb⟩; have hm := HM.out.below hb; clear HM; have HM := Lib.hid hm; clear hm hb) | (go_at_call 34; (with_reducible refine (HOR.out _).mono ?_); rintro e wx ⟨rfl, hb⟩; have hm := HM.out.below hb; clear HM; have HM := Lib.hid hm; clear hm hb) | (with_reducible refine wpl_alloc (d := some 7) (ty := 57) (fun K hK => ?_); refine wp_alloc_ma 57 rfl HM.out [.int .i64 0, .int .i64 0, .int .i64 0, .int .i64 0, .int .i64 0, .int .i64 0, .int .i64 0, .int .i64 0, .int .i64 0, .int .i64 0, .int .i64 0, .int .i64 0, .int .i64 0, .int .i64 0, .int .i64 0, .int .i64 0, .int .i64 0, .int .i64 0] (by kernel_rfl) ?_; intro w9 k7 hm; clear HM; have HM := Lib.hid hm; clear hm; refine hK _ _ ?_; clear hK K; try simp only [Act.put, List.setIfInBounds_toArray, List.set_cons_zero, List.set_cons_succ]) | (with_reducible refine wpl_load (ty := 57) (fun K hK => ?_); refine wp_load_at _ _ rfl _ _ rfl ?_; (first | refine LoadAt.row (n := 18) HM.out 0 rfl (by kernel_rfl) (by kernel_rfl) (Nat.le_of_ble_eq_true rfl) ?_ | refine LoadAt.row (n := 18) HM.out 1 rfl (by kernel_rfl) (by kernel_rfl) (Nat.le_of_ble_eq_true rfl) ?_ | refine LoadAt.row (n := 18) HM.out 2 rfl (by kernel_rfl) (by kernel_rfl) (Nat.le_of_ble_eq_true rfl) ?_); intro r hr; simp only [List.drop_zero, List.drop_succ_cons, List.take_zero, List.take_succ_cons, List.take_nil] at hr; subst hr; refine hK _ _ ?_; clear hK K; try simp only [Act.put, List.setIfInBounds_toArray, List.set_cons_zero, List.set_cons_succ]) | (with_reducible refine wpl_load (fun K hK => ?_); refine wp_load_at _ _ rfl _ _ rfl ?_; (first | refine LoadAt.one HM.out 0 rfl (by kernel_rfl) (Nat.le_of_ble_eq_true rfl) ?_ | refine LoadAt.one HM.out 1 rfl (by kernel_rfl) (Nat.le_of_ble_eq_true rfl) ?_ | refine LoadAt.one HM.out 2 rfl (by kernel_rfl) (Nat.le_of_ble_eq_true rfl) ?_); intro v hv; simp only [List.getElem?_cons_zero, List.getElem?_cons_succ, Option.some.injEq] at hv; subst hv; refine hK _ _ ?_; clear hK K; try simp only [Act.put, List.setIfInBounds_toArray, List.set_cons_zero, List.set_cons_succ]) | (with_reducible refine wpl_store (ty := 57) (fun K hK => ?_); refine wp_store_at _ _ _ rfl _ _ rfl (.agg (List.toArray _)) rfl ?_; (first | refine StoreAt.row HM.out 0 rfl (Nat.le_of_ble_eq_true rfl) (by kernel_rfl) rfl ?_ | refine StoreAt.row HM.out 1 rfl (Nat.le_of_ble_eq_true rfl) (by kernel_rfl) rfl ?_ | refine StoreAt.row HM.out 2 rfl (Nat.le_of_ble_eq_true rfl) (by kernel_rfl) rfl ?_); intro w9 new hnew hm; simp only [setAll, overlay] at hnew; subst hnew; simp only [List.set_cons_zero, List.set_cons_succ] at hm; clear HM; have HM := Lib.hid hm; clear hm; refine hK _ _ ?_; clear hK K; try simp only [Act.put, List.setIfInBounds_toArray, List.set_cons_zero, List.set_cons_succ]) | (with_reducible refine wpl_box (ty := 57) (fun K hK => ?_); refine wp_box_ma _ _ rfl HM.out _ rfl ?_; intro w9 kb9 hm; clear HM; have HM := Lib.hid hm; clear hm; refine hK _ _ ?_; clear hK K; try simp only [Act.put, List.setIfInBounds_toArray, List.set_cons_zero, List.set_cons_succ]) | fail)
  have r1 : Hid ((w9.alloc (.cells #[] 5)).ownsRow w9.heap.size 5 1 (.slice (some ⟨w9.heap.size, 0, none⟩) 0 0) 0 (kv .u8 [])) := Lib.hid (own_new w9 5 1)
  have r2 : Hid (Reads (w9.alloc (.cells #[] 5)) w1e.heap.size 1 A1 n1 (kv .u8 (enc r))) := Lib.hid (HR1.out.below ((HM.out.new 5 []).to_below (fun _ _ h => h)))
  have r3 : Hid (n1 ≤ 100) := HN1
  go_wp2_with (first
    | (at_builtin
       refine wpList_append_any _ rfl (.tmp 43) (.tmp 44) _ rfl w9.heap.size 5 i0 _ 1 1 Try.underlying58 hi0 hz0 hz1 hz2 rfl (by omega) (.slice (some ⟨w9.heap.size, 0, none⟩) 0 0) _ (kv .u8 []) rfl r1.out _ A1 n1 c1 (kv .u8 (enc r)) rfl r2.out kv_one (by have := r3.out; simp only [maxLen]; omega) (by have := r3.out; omega) (by simp) ?_
       intro v1 w1 hown1 hg1 hat1
       rw [kv_append, Nat.zero_add, List.nil_append] at hown1
       obtain ⟨A2, c2, rfl, hr2⟩ := own_slice hown1
       have q2 : Hid (Below w9.heap.size w9 w1) := Lib.hid ((((Only.refl (fun i => w9.heap.size ≤ i) w9).alloc _).trans (Only.of_grown (S := fun i => w9.heap.size ≤ i) hg1 (fun i hi => by simp [Value.ownBlock] at hi; omega)) (fun _ _ h => h)).below (Nat.le_refl _) (fun i hi h => by omega))
       have HR2 := Lib.hid (row8_reads hown1)
       have hm := HM.out.below q2.out
       clear HM
       have HM := Lib.hid hm
       have HN2 : Hid (n1 ≤ c2 ∧ c2 ≤ maxLen) := Lib.hid (own_caps2 hown1)
       clear hown1 hg1 hat1 hr2 hm
       try simp only [Act.put, List.setIfInBounds_toArray, List.set_cons_zero, List.set_cons_succ])
    | fail)
  clear r1 r2 r3
  with_reducible refine (dec_any A2 n1 c2 (enc r) w1 HR2.out HOK.out HN2.out).mono ?_
  rintro e w2 ⟨he, hb2⟩
  rw [HDE.out] at he
  have he2 : e = .returned (.tuple #[.agg #[.int .i64 x.k, .int .i64 x.ck, .int .i64 x.pi, .int .i64 x.px, .int .i64 x.py, .int .i64 x.si, .int .i64 x.sl, .int .i64 x.sh, .int .i64 x.q.qk, .int .i64 x.q.b1, .int .i64 x.q.b2, .int .i64 x.q.b3, .int .i64 x.q.b4, .int .i64 x.q.w1, .int .i64 x.q.w2, .int .i64 x.q.w3, .int .i64 x.q.x, .int .i64 x.q.h], .int .i64 0]) := he
  clear he
  subst he2
  have hm := HM.out.below hb2
  clear HM hb2 HR2 HN2 hi0 hz0 hz1 hz2
  have HM := Lib.hid hm
  clear hm
  go_upto_region 9 with (first | (go_at_call 36; (with_reducible refine (HSM.out _).mono ?_); rintro e wx ⟨rfl, hb⟩; have hm := HM.out.below hb; clear HM; have HM := Lib.hid hm; clear hm hb) | (with_reducible refine wpl_alloc (d := some 8) (ty := 57) (fun K hK => ?_); refine wp_alloc_ma 57 rfl HM.out [.int .i64 0, .int .i64 0, .int .i64 0, .int .i64 0, .int .i64 0, .int .i64 0, .int .i64 0, .int .i64 0, .int .i64 0, .int .i64 0, .int .i64 0, .int .i64 0, .int .i64 0, .int .i64 0, .int .i64 0, .int .i64 0, .int .i64 0, .int .i64 0] (by kernel_rfl) ?_; intro w9 k8 hm; clear HM; have HM := Lib.hid hm; clear hm; refine hK _ _ ?_; clear hK K; try simp only [Act.put, List.setIfInBounds_toArray, List.set_cons_zero, List.set_cons_succ]) | (with_reducible refine wpl_load (ty := 57) (fun K hK => ?_); refine wp_load_at _ _ rfl _ _ rfl ?_; (first | refine LoadAt.row (n := 18) HM.out 0 rfl (by kernel_rfl) (by kernel_rfl) (Nat.le_of_ble_eq_true rfl) ?_ | refine LoadAt.row (n := 18) HM.out 1 rfl (by kernel_rfl) (by kernel_rfl) (Nat.le_of_ble_eq_true rfl) ?_ | refine LoadAt.row (n := 18) HM.out 2 rfl (by kernel_rfl) (by kernel_rfl) (Nat.le_of_ble_eq_true rfl) ?_ | refine LoadAt.row (n := 18) HM.out 3 rfl (by kernel_rfl) (by kernel_rfl) (Nat.le_of_ble_eq_true rfl) ?_); intro r hr; simp only [List.drop_zero, List.drop_succ_cons, List.take_zero, List.take_succ_cons, List.take_nil] at hr; subst hr; refine hK _ _ ?_; clear hK K; try simp only [Act.put, List.setIfInBounds_toArray, List.set_cons_zero, List.set_cons_succ]) | (with_reducible refine wpl_load (fun K hK => ?_); refine wp_load_at _ _ rfl _ _ rfl ?_; (first | refine LoadAt.one HM.out 0 rfl (by kernel_rfl) (Nat.le_of_ble_eq_true rfl) ?_ | refine LoadAt.one HM.out 1 rfl (by kernel_rfl) (Nat.le_of_ble_eq_true rfl) ?_ | refine LoadAt.one HM.out 2 rfl (by kernel_rfl) (Nat.le_of_ble_eq_true rfl) ?_ | refine LoadAt.one HM.out 3 rfl (by kernel_rfl) (Nat.le_of_ble_eq_true rfl) ?_); intro v hv; simp only [List.getElem?_cons_zero, List.getElem?_cons_succ, Option.some.injEq] at hv; subst hv; refine hK _ _ ?_; clear hK K; try simp only [Act.put, List.setIfInBounds_toArray, List.set_cons_zero, List.set_cons_succ]) | (with_reducible refine wpl_store (ty := 57) (fun K hK => ?_); refine wp_store_at _ _ _ rfl _ _ rfl (.agg (List.toArray _)) rfl ?_; (first | refine StoreAt.row HM.out 0 rfl (Nat.le_of_ble_eq_true rfl) (by kernel_rfl) rfl ?_ | refine StoreAt.row HM.out 1 rfl (Nat.le_of_ble_eq_true rfl) (by kernel_rfl) rfl ?_ | refine StoreAt.row HM.out 2 rfl (Nat.le_of_ble_eq_true rfl) (by kernel_rfl) rfl ?_ | refine StoreAt.row HM.out 3 rfl (Nat.le_of_ble_eq_true rfl) (by kernel_rfl) rfl ?_); intro w9 new hnew hm; simp only [setAll, overlay] at hnew; subst hnew; simp only [List.set_cons_zero, List.set_cons_succ] at hm; clear HM; have HM := Lib.hid hm; clear hm; refine hK _ _ ?_; clear hK K; try simp only [Act.put, List.setIfInBounds_toArray, List.set_cons_zero, List.set_cons_succ]) | (with_reducible refine wpl_box (ty := 57) (fun K hK => ?_); refine wp_box_ma _ _ rfl HM.out _ rfl ?_; intro w9 kb9 hm; clear HM; have HM := Lib.hid hm; clear hm; refine hK _ _ ?_; clear hK K; try simp only [Act.put, List.setIfInBounds_toArray, List.set_cons_zero, List.set_cons_succ]) | fail)
  refine wp_region_noPanic ?_
  refine wp_region_held_drew (S := (fun w' => Blk w' ks 57 #[.int .i64 s.k, .int .i64 s.ck, .int .i64 s.pi, .int .i64 s.px, .int .i64 s.py, .int .i64 s.si, .int .i64 s.sl, .int .i64 s.sh, .int .i64 s.q.qk, .int .i64 s.q.b1, .int .i64 s.q.b2, .int .i64 s.q.b3, .int .i64 s.q.b4, .int .i64 s.q.w1, .int .i64 s.q.w2, .int .i64 s.q.w3, .int .i64 s.q.x, .int .i64 s.q.h] ∧ Blk w' k7 57 #[.int .i64 x.k, .int .i64 x.ck, .int .i64 x.pi, .int .i64 x.px, .int .i64 x.py, .int .i64 x.si, .int .i64 x.sl, .int .i64 x.sh, .int .i64 x.q.qk, .int .i64 x.q.b1, .int .i64 x.q.b2, .int .i64 x.q.b3, .int .i64 x.q.b4, .int .i64 x.q.w1, .int .i64 x.q.w2, .int .i64 x.q.w3, .int .i64 x.q.x, .int .i64 x.q.h])) (by kernel_rfl) ?_ (fun hHeld => ?_)
  · exact ⟨HM.out.at_ 2 rfl, HM.out.at_ 1 rfl⟩
  have hm := HM.out.drew
  clear HM
  have HM := Lib.hid hm
  clear hm
  refine wpAnyH_take (i := 0) (oi := ⟨_, _, _, _, _, _⟩) (v := ?_) rfl (by kernel_rfl) (by kernel_rfl) (by kernel_rfl) (fun _ _ _ h => h) (Or.inl ⟨by rfl, ?_⟩) (by assumption) ?_
  rotate_left
  · intro w hSw; (try dsimp only at hSw); go_split_ands; go_simp; try with_reducible rfl
  try simp only [Act.put, List.setIfInBounds_toArray, List.set_cons_zero, List.set_cons_succ]
  refine wpAnyH_take (i := 1) (oi := ⟨_, _, _, _, _, _⟩) (v := .agg #[.int .i64 s.k, .int .i64 s.ck, .int .i64 s.pi, .int .i64 s.px, .int .i64 s.py, .int .i64 s.si, .int .i64 s.sl, .int .i64 s.sh, .int .i64 s.q.qk, .int .i64 s.q.b1, .int .i64 s.q.b2, .int .i64 s.q.b3, .int .i64 s.q.b4, .int .i64 s.q.w1, .int .i64 s.q.w2, .int .i64 s.q.w3, .int .i64 s.q.x, .int .i64 s.q.h]) rfl (by kernel_rfl) (by kernel_rfl) (by kernel_rfl) (fun _ _ _ h => h) (yieldsIf_load_mid (by rfl) 57 (.tmp 3) rfl _ 0 rfl [.int .i64 s.k, .int .i64 s.ck, .int .i64 s.pi, .int .i64 s.px, .int .i64 s.py, .int .i64 s.si, .int .i64 s.sl, .int .i64 s.sh, .int .i64 s.q.qk, .int .i64 s.q.b1, .int .i64 s.q.b2, .int .i64 s.q.b3, .int .i64 s.q.b4, .int .i64 s.q.w1, .int .i64 s.q.w2, .int .i64 s.q.w3, .int .i64 s.q.x, .int .i64 s.q.h] _ (fun w h => range_of_blk h.1 0 18 _ rfl) Try.underlying57 rfl (by kernel_rfl)) (by assumption) ?_
  try simp only [Act.put, List.setIfInBounds_toArray, List.set_cons_zero, List.set_cons_succ]
  refine wpAnyH_ready (rs := [2]) (by kernel_rfl) (by simp) ?_
  refine AllReadyH.cons (o := ⟨_, _, _, _, _, _⟩) rfl (fun K hK => ?_) AllReadyH.nil
  go_simp
  go_at_call 31
  refine (HGS.out _).mono ?_
  rintro e wx ⟨rfl, hb⟩
  have hm := HM.out.below hb
  clear HM hb
  have HM := Lib.hid hm
  clear hm
  refine hK.out _ _ ?_ (fun hHeld => ?_)
  · exact ⟨HM.out.at_ 2 rfl, HM.out.at_ 1 rfl⟩
  clear hK K
  try simp only [Act.put, List.setIfInBounds_toArray, List.set_cons_zero, List.set_cons_succ]
  refine wpAnyH_take (i := 3) (oi := ⟨_, _, _, _, _, _⟩) (v := ?_) rfl (by kernel_rfl) (by kernel_rfl) (by kernel_rfl) (fun _ _ _ h => h) (Or.inl ⟨by rfl, ?_⟩) (by assumption) ?_
  rotate_left
  · intro w hSw; (try dsimp only at hSw); go_split_ands; go_simp; try with_reducible rfl
  try simp only [Act.put, List.setIfInBounds_toArray, List.set_cons_zero, List.set_cons_succ]
  refine wpAnyH_take (i := 4) (oi := ⟨_, _, _, _, _, _⟩) (v := undef) rfl (by kernel_rfl) (by kernel_rfl) (by kernel_rfl) (fun _ _ _ h => h) (Or.inr ⟨by rfl, rfl⟩) (by assumption) ?_
  try simp only [Act.put, List.setIfInBounds_toArray, List.set_cons_zero, List.set_cons_succ]
  refine wpAnyH_take (i := 5) (oi := ⟨_, _, _, _, _, _⟩) (v := undef) rfl (by kernel_rfl) (by kernel_rfl) (by kernel_rfl) (fun _ _ _ h => h) (Or.inr ⟨by rfl, rfl⟩) (by assumption) ?_
  try simp only [Act.put, List.setIfInBounds_toArray, List.set_cons_zero, List.set_cons_succ]
  refine wpAnyH_take (i := 6) (oi := ⟨_, _, _, _, _, _⟩) (v := undef) rfl (by kernel_rfl) (by kernel_rfl) (by kernel_rfl) (fun _ _ _ h => h) (Or.inr ⟨by rfl, rfl⟩) (by assumption) ?_
  try simp only [Act.put, List.setIfInBounds_toArray, List.set_cons_zero, List.set_cons_succ]
  refine wpAnyH_take (i := 7) (oi := ⟨_, _, _, _, _, _⟩) (v := undef) rfl (by kernel_rfl) (by kernel_rfl) (by kernel_rfl) (fun _ _ _ h => h) (Or.inr ⟨by rfl, rfl⟩) (by assumption) ?_
  try simp only [Act.put, List.setIfInBounds_toArray, List.set_cons_zero, List.set_cons_succ]
  refine wpAnyH_take (i := 8) (oi := ⟨_, _, _, _, _, _⟩) (v := ?_) rfl (by kernel_rfl) (by kernel_rfl) (by kernel_rfl) (fun _ _ _ h => h) (Or.inl ⟨by rfl, ?_⟩) (by assumption) ?_
  rotate_left
  · intro w hSw; (try dsimp only at hSw); go_split_ands; go_simp; try with_reducible rfl
  try simp only [Act.put, List.setIfInBounds_toArray, List.set_cons_zero, List.set_cons_succ]
  refine wpAnyH_take (i := 9) (oi := ⟨_, _, _, _, _, _⟩) (v := ?_) rfl (by kernel_rfl) (by kernel_rfl) (by kernel_rfl) (fun _ _ _ h => h) (Or.inl ⟨by rfl, ?_⟩) (by assumption) ?_
  rotate_left
  · intro w hSw; (try dsimp only at hSw); go_split_ands; go_simp; try with_reducible rfl
  try simp only [Act.put, List.setIfInBounds_toArray, List.set_cons_zero, List.set_cons_succ]
  refine wpAnyH_done (by kernel_rfl) ?_ _
  refine NoPanic.normal ?_
  skip
  go_upto_region 11 with (first | (with_reducible refine wpl_load (ty := 57) (fun K hK => ?_); refine wp_load_at _ _ rfl _ _ rfl ?_; (first | refine LoadAt.row (n := 18) HM.out 0 rfl (by kernel_rfl) (by kernel_rfl) (Nat.le_of_ble_eq_true rfl) ?_ | refine LoadAt.row (n := 18) HM.out 1 rfl (by kernel_rfl) (by kernel_rfl) (Nat.le_of_ble_eq_true rfl) ?_ | refine LoadAt.row (n := 18) HM.out 2 rfl (by kernel_rfl) (by kernel_rfl) (Nat.le_of_ble_eq_true rfl) ?_ | refine LoadAt.row (n := 18) HM.out 3 rfl (by kernel_rfl) (by kernel_rfl) (Nat.le_of_ble_eq_true rfl) ?_); intro r hr; simp only [List.drop_zero, List.drop_succ_cons, List.take_zero, List.take_succ_cons, List.take_nil] at hr; subst hr; refine hK _ _ ?_; clear hK K; try simp only [Act.put, List.setIfInBounds_toArray, List.set_cons_zero, List.set_cons_succ]) | (with_reducible refine wpl_load (fun K hK => ?_); refine wp_load_at _ _ rfl _ _ rfl ?_; (first | refine LoadAt.one HM.out 0 rfl (by kernel_rfl) (Nat.le_of_ble_eq_true rfl) ?_ | refine LoadAt.one HM.out 1 rfl (by kernel_rfl) (Nat.le_of_ble_eq_true rfl) ?_ | refine LoadAt.one HM.out 2 rfl (by kernel_rfl) (Nat.le_of_ble_eq_true rfl) ?_ | refine LoadAt.one HM.out 3 rfl (by kernel_rfl) (Nat.le_of_ble_eq_true rfl) ?_); intro v hv; simp only [List.getElem?_cons_zero, List.getElem?_cons_succ, Option.some.injEq] at hv; subst hv; refine hK _ _ ?_; clear hK K; try simp only [Act.put, List.setIfInBounds_toArray, List.set_cons_zero, List.set_cons_succ]) | (with_reducible refine wpl_store (ty := 57) (fun K hK => ?_); refine wp_store_at _ _ _ rfl _ _ rfl (.agg (List.toArray _)) rfl ?_; (first | refine StoreAt.row HM.out 0 rfl (Nat.le_of_ble_eq_true rfl) (by kernel_rfl) rfl ?_ | refine StoreAt.row HM.out 1 rfl (Nat.le_of_ble_eq_true rfl) (by kernel_rfl) rfl ?_ | refine StoreAt.row HM.out 2 rfl (Nat.le_of_ble_eq_true rfl) (by kernel_rfl) rfl ?_ | refine StoreAt.row HM.out 3 rfl (Nat.le_of_ble_eq_true rfl) (by kernel_rfl) rfl ?_); intro w9 new hnew hm; simp only [setAll, overlay] at hnew; subst hnew; simp only [List.set_cons_zero, List.set_cons_succ] at hm; clear HM; have HM := Lib.hid hm; clear hm; refine hK _ _ ?_; clear hK K; try simp only [Act.put, List.setIfInBounds_toArray, List.set_cons_zero, List.set_cons_succ]) | (with_reducible refine wpl_box (ty := 57) (fun K hK => ?_); refine wp_box_ma _ _ rfl HM.out _ rfl ?_; intro w9 kb9 hm; clear HM; have HM := Lib.hid hm; clear hm; refine hK _ _ ?_; clear hK K; try simp only [Act.put, List.setIfInBounds_toArray, List.set_cons_zero, List.set_cons_succ]) | fail)
  refine wp_region_noPanic ?_
  refine wp_region_held_drew (S := (fun w' => (convert 58 9 (.slice A1 n1 c1)).run Try.prog w' = .ok (.string S1) w' ∧ Blk w' kr 57 #[.int .i64 r.k, .int .i64 r.ck, .int .i64 r.pi, .int .i64 r.px, .int .i64 r.py, .int .i64 r.si, .int .i64 r.sl, .int .i64 r.sh, .int .i64 r.q.qk, .int .i64 r.q.b1, .int .i64 r.q.b2, .int .i64 r.q.b3, .int .i64 r.q.b4, .int .i64 r.q.w1, .int .i64 r.q.w2, .int .i64 r.q.w3, .int .i64 r.q.x, .int .i64 r.q.h] ∧ Blk w' k7 57 #[.int .i64 x.k, .int .i64 x.ck, .int .i64 x.pi, .int .i64 x.px, .int .i64 x.py, .int .i64 x.si, .int .i64 x.sl, .int .i64 x.sh, .int .i64 x.q.qk, .int .i64 x.q.b1, .int .i64 x.q.b2, .int .i64 x.q.b3, .int .i64 x.q.b4, .int .i64 x.q.w1, .int .i64 x.q.w2, .int .i64 x.q.w3, .int .i64 x.q.x, .int .i64 x.q.h] ∧ Blk w' k8 57 #[.int .i64 x.k, .int .i64 x.ck, .int .i64 x.pi, .int .i64 x.px, .int .i64 x.py, .int .i64 x.si, .int .i64 x.sl, .int .i64 x.sh, .int .i64 x.q.qk, .int .i64 x.q.b1, .int .i64 x.q.b2, .int .i64 x.q.b3, .int .i64 x.q.b4, .int .i64 x.q.w1, .int .i64 x.q.w2, .int .i64 x.q.w3, .int .i64 x.q.x, .int .i64 x.q.h])) (by kernel_rfl) ?_ (fun hHeld => ?_)
  · exact ⟨HC5.out _ (HM.out.to_below (fun _ _ h => h)).drew, HM.out.at_ 3 rfl, HM.out.at_ 1 rfl, HM.out.at_ 0 rfl⟩
  have hm := HM.out.drew
  clear HM
  have HM := Lib.hid hm
  clear hm
  refine wpAnyH_take (i := 0) (oi := ⟨_, _, _, _, _, _⟩) (v := ?_) rfl (by kernel_rfl) (by kernel_rfl) (by kernel_rfl) (fun _ _ _ h => h) (Or.inl ⟨by rfl, ?_⟩) (by assumption) ?_
  rotate_left
  · intro w hSw; (try dsimp only at hSw); go_split_ands; go_simp; try with_reducible rfl
  try simp only [Act.put, List.setIfInBounds_toArray, List.set_cons_zero, List.set_cons_succ]
  refine wpAnyH_take (i := 1) (oi := ⟨_, _, _, _, _, _⟩) (v := ?_) rfl (by kernel_rfl) (by kernel_rfl) (by kernel_rfl) (fun _ _ _ h => h) (Or.inl ⟨by rfl, ?_⟩) (by assumption) ?_
  rotate_left
  · intro w hSw; (try dsimp only at hSw); go_split_ands; go_simp; try with_reducible rfl
  try simp only [Act.put, List.setIfInBounds_toArray, List.set_cons_zero, List.set_cons_succ]
  refine wpAnyH_take (i := 2) (oi := ⟨_, _, _, _, _, _⟩) (v := ?_) rfl (by kernel_rfl) (by kernel_rfl) (by kernel_rfl) (fun _ _ _ h => h) (Or.inl ⟨by rfl, ?_⟩) (by assumption) ?_
  rotate_left
  · intro w hSw; (try dsimp only at hSw); go_split_ands; go_simp; try with_reducible rfl
  try simp only [Act.put, List.setIfInBounds_toArray, List.set_cons_zero, List.set_cons_succ]
  refine wpAnyH_take (i := 3) (oi := ⟨_, _, _, _, _, _⟩) (v := ?_) rfl (by kernel_rfl) (by kernel_rfl) (by kernel_rfl) (fun _ _ _ h => h) (Or.inl ⟨by rfl, ?_⟩) (by assumption) ?_
  rotate_left
  · intro w hSw; (try dsimp only at hSw); go_split_ands; go_simp; try with_reducible rfl
  try simp only [Act.put, List.setIfInBounds_toArray, List.set_cons_zero, List.set_cons_succ]
  refine wpAnyH_take (i := 4) (oi := ⟨_, _, _, _, _, _⟩) (v := ?_) rfl (by kernel_rfl) (by kernel_rfl) (by kernel_rfl) (fun _ _ _ h => h) (Or.inl ⟨by rfl, ?_⟩) (by assumption) ?_
  rotate_left
  · intro w hSw; (try dsimp only at hSw); go_split_ands; go_simp; try with_reducible rfl
  try simp only [Act.put, List.setIfInBounds_toArray, List.set_cons_zero, List.set_cons_succ]
  refine wpAnyH_take (i := 5) (oi := ⟨_, _, _, _, _, _⟩) (v := .agg #[.int .i64 r.k, .int .i64 r.ck, .int .i64 r.pi, .int .i64 r.px, .int .i64 r.py, .int .i64 r.si, .int .i64 r.sl, .int .i64 r.sh, .int .i64 r.q.qk, .int .i64 r.q.b1, .int .i64 r.q.b2, .int .i64 r.q.b3, .int .i64 r.q.b4, .int .i64 r.q.w1, .int .i64 r.q.w2, .int .i64 r.q.w3, .int .i64 r.q.x, .int .i64 r.q.h]) rfl (by kernel_rfl) (by kernel_rfl) (by kernel_rfl) (fun _ _ _ h => h) (yieldsIf_load_mid (by rfl) 57 (.tmp 2) rfl _ 0 rfl [.int .i64 r.k, .int .i64 r.ck, .int .i64 r.pi, .int .i64 r.px, .int .i64 r.py, .int .i64 r.si, .int .i64 r.sl, .int .i64 r.sh, .int .i64 r.q.qk, .int .i64 r.q.b1, .int .i64 r.q.b2, .int .i64 r.q.b3, .int .i64 r.q.b4, .int .i64 r.q.w1, .int .i64 r.q.w2, .int .i64 r.q.w3, .int .i64 r.q.x, .int .i64 r.q.h] _ (fun w h => range_of_blk h.2.1 0 18 _ rfl) Try.underlying57 rfl (by kernel_rfl)) (by assumption) ?_
  try simp only [Act.put, List.setIfInBounds_toArray, List.set_cons_zero, List.set_cons_succ]
  refine wpAnyH_ready (rs := [6]) (by kernel_rfl) (by simp) ?_
  refine AllReadyH.cons (o := ⟨_, _, _, _, _, _⟩) rfl (fun K hK => ?_) AllReadyH.nil
  go_simp
  go_at_call 37
  refine (HE.out _).mono ?_
  rintro e wx ⟨AE, nE, cE, rfl, hre, hb⟩
  have hm := HM.out.below hb
  clear HM hb
  have HM := Lib.hid hm
  clear hm
  have HRE := Lib.hid hre
  clear hre
  refine hK.out _ _ ?_ (fun hHeld => ?_)
  · exact ⟨HC5.out _ (HM.out.to_below (fun _ _ h => h)), HM.out.at_ 3 rfl, HM.out.at_ 1 rfl, HM.out.at_ 0 rfl⟩
  clear hK K
  try simp only [Act.put, List.setIfInBounds_toArray, List.set_cons_zero, List.set_cons_succ]
  refine wpAnyH_ready (rs := [7]) (by kernel_rfl) (by simp) ?_
  refine AllReadyH.cons (o := ⟨_, _, _, _, _, _⟩) rfl (fun K hK => ?_) AllReadyH.nil
  have hcv := conv_str (c := cE) HRE.out
  rw [HSE.out] at hcv
  go_simp
  refine hK.out _ _ ?_ (fun hHeld => ?_)
  · exact ⟨HC5.out _ (HM.out.to_below (fun _ _ h => h)), HM.out.at_ 3 rfl, HM.out.at_ 1 rfl, HM.out.at_ 0 rfl⟩
  clear hK K
  try simp only [Act.put, List.setIfInBounds_toArray, List.set_cons_zero, List.set_cons_succ]
  refine wpAnyH_take (i := 8) (oi := ⟨_, _, _, _, _, _⟩) (v := ?_) rfl (by kernel_rfl) (by kernel_rfl) (by kernel_rfl) (fun _ _ _ h => h) (Or.inl ⟨by rfl, ?_⟩) (by assumption) ?_
  rotate_left
  · intro w hSw; (try dsimp only at hSw); go_split_ands; go_simp; try with_reducible rfl
  try simp only [Act.put, List.setIfInBounds_toArray, List.set_cons_zero, List.set_cons_succ]
  refine wpAnyH_take (i := 9) (oi := ⟨_, _, _, _, _, _⟩) (v := ?_) rfl (by kernel_rfl) (by kernel_rfl) (by kernel_rfl) (fun _ _ _ h => h) (Or.inl ⟨by rfl, ?_⟩) (by assumption) ?_
  rotate_left
  · intro w hSw; (try dsimp only at hSw); go_split_ands; go_simp; try with_reducible rfl
  try simp only [Act.put, List.setIfInBounds_toArray, List.set_cons_zero, List.set_cons_succ]
  refine wpAnyH_take (i := 10) (oi := ⟨_, _, _, _, _, _⟩) (v := ?_) rfl (by kernel_rfl) (by kernel_rfl) (by kernel_rfl) (fun _ _ _ h => h) (Or.inl ⟨by rfl, ?_⟩) (by assumption) ?_
  rotate_left
  · intro w hSw; (try dsimp only at hSw); go_split_ands; go_simp; try with_reducible rfl
  try simp only [Act.put, List.setIfInBounds_toArray, List.set_cons_zero, List.set_cons_succ]
  refine wpAnyH_take (i := 11) (oi := ⟨_, _, _, _, _, _⟩) (v := ?_) rfl (by kernel_rfl) (by kernel_rfl) (by kernel_rfl) (fun _ _ _ h => h) (Or.inl ⟨by rfl, ?_⟩) (by assumption) ?_
  rotate_left
  · intro w hSw; (try dsimp only at hSw); go_split_ands; go_simp; try with_reducible rfl
  try simp only [Act.put, List.setIfInBounds_toArray, List.set_cons_zero, List.set_cons_succ]
  refine wpAnyH_take (i := 12) (oi := ⟨_, _, _, _, _, _⟩) (v := ?_) rfl (by kernel_rfl) (by kernel_rfl) (by kernel_rfl) (fun _ _ _ h => h) (Or.inl ⟨by rfl, ?_⟩) (by assumption) ?_
  rotate_left
  · intro w hSw; (try dsimp only at hSw); go_split_ands; go_simp; try with_reducible rfl
  try simp only [Act.put, List.setIfInBounds_toArray, List.set_cons_zero, List.set_cons_succ]
  refine wpAnyH_take (i := 13) (oi := ⟨_, _, _, _, _, _⟩) (v := ?_) rfl (by kernel_rfl) (by kernel_rfl) (by kernel_rfl) (fun _ _ _ h => h) (Or.inl ⟨by rfl, ?_⟩) (by assumption) ?_
  rotate_left
  · intro w hSw; (try dsimp only at hSw); go_split_ands; go_simp; try with_reducible rfl
  try simp only [Act.put, List.setIfInBounds_toArray, List.set_cons_zero, List.set_cons_succ]
  refine wpAnyH_take (i := 14) (oi := ⟨_, _, _, _, _, _⟩) (v := ?_) rfl (by kernel_rfl) (by kernel_rfl) (by kernel_rfl) (fun _ _ _ h => h) (Or.inl ⟨by rfl, ?_⟩) (by assumption) ?_
  rotate_left
  · intro w hSw; (try dsimp only at hSw); go_split_ands; go_simp; try with_reducible rfl
  try simp only [Act.put, List.setIfInBounds_toArray, List.set_cons_zero, List.set_cons_succ]
  refine wpAnyH_take (i := 15) (oi := ⟨_, _, _, _, _, _⟩) (v := .agg #[.int .i64 x.k, .int .i64 x.ck, .int .i64 x.pi, .int .i64 x.px, .int .i64 x.py, .int .i64 x.si, .int .i64 x.sl, .int .i64 x.sh, .int .i64 x.q.qk, .int .i64 x.q.b1, .int .i64 x.q.b2, .int .i64 x.q.b3, .int .i64 x.q.b4, .int .i64 x.q.w1, .int .i64 x.q.w2, .int .i64 x.q.w3, .int .i64 x.q.x, .int .i64 x.q.h]) rfl (by kernel_rfl) (by kernel_rfl) (by kernel_rfl) (fun _ _ _ h => h) (yieldsIf_load_mid (by rfl) 57 (.tmp 8) rfl _ 0 rfl [.int .i64 x.k, .int .i64 x.ck, .int .i64 x.pi, .int .i64 x.px, .int .i64 x.py, .int .i64 x.si, .int .i64 x.sl, .int .i64 x.sh, .int .i64 x.q.qk, .int .i64 x.q.b1, .int .i64 x.q.b2, .int .i64 x.q.b3, .int .i64 x.q.b4, .int .i64 x.q.w1, .int .i64 x.q.w2, .int .i64 x.q.w3, .int .i64 x.q.x, .int .i64 x.q.h] _ (fun w h => range_of_blk h.2.2.2 0 18 _ rfl) Try.underlying57 rfl (by kernel_rfl)) (by assumption) ?_
  try simp only [Act.put, List.setIfInBounds_toArray, List.set_cons_zero, List.set_cons_succ]
  refine wpAnyH_take (i := 16) (oi := ⟨_, _, _, _, _, _⟩) (v := .agg #[.int .i64 x.k, .int .i64 x.ck, .int .i64 x.pi, .int .i64 x.px, .int .i64 x.py, .int .i64 x.si, .int .i64 x.sl, .int .i64 x.sh, .int .i64 x.q.qk, .int .i64 x.q.b1, .int .i64 x.q.b2, .int .i64 x.q.b3, .int .i64 x.q.b4, .int .i64 x.q.w1, .int .i64 x.q.w2, .int .i64 x.q.w3, .int .i64 x.q.x, .int .i64 x.q.h]) rfl (by kernel_rfl) (by kernel_rfl) (by kernel_rfl) (fun _ _ _ h => h) (yieldsIf_load_mid (by rfl) 57 (.tmp 7) rfl _ 0 rfl [.int .i64 x.k, .int .i64 x.ck, .int .i64 x.pi, .int .i64 x.px, .int .i64 x.py, .int .i64 x.si, .int .i64 x.sl, .int .i64 x.sh, .int .i64 x.q.qk, .int .i64 x.q.b1, .int .i64 x.q.b2, .int .i64 x.q.b3, .int .i64 x.q.b4, .int .i64 x.q.w1, .int .i64 x.q.w2, .int .i64 x.q.w3, .int .i64 x.q.x, .int .i64 x.q.h] _ (fun w h => range_of_blk h.2.2.1 0 18 _ rfl) Try.underlying57 rfl (by kernel_rfl)) (by assumption) ?_
  try simp only [Act.put, List.setIfInBounds_toArray, List.set_cons_zero, List.set_cons_succ]
  refine wpAnyH_take (i := 17) (oi := ⟨_, _, _, _, _, _⟩) (v := ?_) rfl (by kernel_rfl) (by kernel_rfl) (by kernel_rfl) (fun _ _ _ h => h) (Or.inl ⟨by rfl, ?_⟩) (by assumption) ?_
  rotate_left
  · intro w hSw; (try dsimp only at hSw); go_split_ands; go_simp; try with_reducible rfl
  try simp only [Act.put, List.setIfInBounds_toArray, List.set_cons_zero, List.set_cons_succ]
  refine wpAnyH_take (i := 18) (oi := ⟨_, _, _, _, _, _⟩) (v := ?_) rfl (by kernel_rfl) (by kernel_rfl) (by kernel_rfl) (fun _ _ _ h => h) (Or.inl ⟨by rfl, ?_⟩) (by assumption) ?_
  rotate_left
  · intro w hSw; (try dsimp only at hSw); go_split_ands; go_simp; try with_reducible rfl
  try simp only [Act.put, List.setIfInBounds_toArray, List.set_cons_zero, List.set_cons_succ]
  refine wpAnyH_take (i := 19) (oi := ⟨_, _, _, _, _, _⟩) (v := ?_) rfl (by kernel_rfl) (by kernel_rfl) (by kernel_rfl) (fun _ _ _ h => h) (Or.inl ⟨by rfl, ?_⟩) (by assumption) ?_
  rotate_left
  · intro w hSw; (try dsimp only at hSw); go_split_ands; go_simp; try with_reducible rfl
  try simp only [Act.put, List.setIfInBounds_toArray, List.set_cons_zero, List.set_cons_succ]
  refine wpAnyH_take (i := 20) (oi := ⟨_, _, _, _, _, _⟩) (v := .agg #[.int .i64 r.k, .int .i64 r.ck, .int .i64 r.pi, .int .i64 r.px, .int .i64 r.py, .int .i64 r.si, .int .i64 r.sl, .int .i64 r.sh, .int .i64 r.q.qk, .int .i64 r.q.b1, .int .i64 r.q.b2, .int .i64 r.q.b3, .int .i64 r.q.b4, .int .i64 r.q.w1, .int .i64 r.q.w2, .int .i64 r.q.w3, .int .i64 r.q.x, .int .i64 r.q.h]) rfl (by kernel_rfl) (by kernel_rfl) (by kernel_rfl) (fun _ _ _ h => h) (yieldsIf_load_mid (by rfl) 57 (.tmp 2) rfl _ 0 rfl [.int .i64 r.k, .int .i64 r.ck, .int .i64 r.pi, .int .i64 r.px, .int .i64 r.py, .int .i64 r.si, .int .i64 r.sl, .int .i64 r.sh, .int .i64 r.q.qk, .int .i64 r.q.b1, .int .i64 r.q.b2, .int .i64 r.q.b3, .int .i64 r.q.b4, .int .i64 r.q.w1, .int .i64 r.q.w2, .int .i64 r.q.w3, .int .i64 r.q.x, .int .i64 r.q.h] _ (fun w h => range_of_blk h.2.1 0 18 _ rfl) Try.underlying57 rfl (by kernel_rfl)) (by assumption) ?_
  try simp only [Act.put, List.setIfInBounds_toArray, List.set_cons_zero, List.set_cons_succ]
  refine wpAnyH_take (i := 22) (oi := ⟨_, _, _, _, _, _⟩) (v := .agg #[.int .i64 x.k, .int .i64 x.ck, .int .i64 x.pi, .int .i64 x.px, .int .i64 x.py, .int .i64 x.si, .int .i64 x.sl, .int .i64 x.sh, .int .i64 x.q.qk, .int .i64 x.q.b1, .int .i64 x.q.b2, .int .i64 x.q.b3, .int .i64 x.q.b4, .int .i64 x.q.w1, .int .i64 x.q.w2, .int .i64 x.q.w3, .int .i64 x.q.x, .int .i64 x.q.h]) rfl (by kernel_rfl) (by kernel_rfl) (by kernel_rfl) (fun _ _ _ h => h) (yieldsIf_load_mid (by rfl) 57 (.tmp 7) rfl _ 0 rfl [.int .i64 x.k, .int .i64 x.ck, .int .i64 x.pi, .int .i64 x.px, .int .i64 x.py, .int .i64 x.si, .int .i64 x.sl, .int .i64 x.sh, .int .i64 x.q.qk, .int .i64 x.q.b1, .int .i64 x.q.b2, .int .i64 x.q.b3, .int .i64 x.q.b4, .int .i64 x.q.w1, .int .i64 x.q.w2, .int .i64 x.q.w3, .int .i64 x.q.x, .int .i64 x.q.h] _ (fun w h => range_of_blk h.2.2.1 0 18 _ rfl) Try.underlying57 rfl (by kernel_rfl)) (by assumption) ?_
  try simp only [Act.put, List.setIfInBounds_toArray, List.set_cons_zero, List.set_cons_succ]
  refine wpAnyH_ready (rs := [21]) (by kernel_rfl) (by simp) ?_
  refine AllReadyH.cons (o := ⟨_, _, _, _, _, _⟩) rfl (fun K hK => ?_) AllReadyH.nil
  go_simp
  go_at_call 32
  refine (HOC.out _).mono ?_
  rintro e wx ⟨rfl, hb⟩
  have hm := HM.out.below hb
  clear HM hb
  have HM := Lib.hid hm
  clear hm
  refine hK.out _ _ ?_ (fun hHeld => ?_)
  · exact ⟨HC5.out _ (HM.out.to_below (fun _ _ h => h)), HM.out.at_ 3 rfl, HM.out.at_ 1 rfl, HM.out.at_ 0 rfl⟩
  clear hK K
  try simp only [Act.put, List.setIfInBounds_toArray, List.set_cons_zero, List.set_cons_succ]
  refine wpAnyH_take (i := 23) (oi := ⟨_, _, _, _, _, _⟩) (v := ?_) rfl (by kernel_rfl) (by kernel_rfl) (by kernel_rfl) (fun _ _ _ h => h) (Or.inl ⟨by rfl, ?_⟩) (by assumption) ?_
  rotate_left
  · intro w hSw; (try dsimp only at hSw); go_split_ands; go_simp; try with_reducible rfl
  try simp only [Act.put, List.setIfInBounds_toArray, List.set_cons_zero, List.set_cons_succ]
  refine wpAnyH_take (i := 24) (oi := ⟨_, _, _, _, _, _⟩) (v := ?_) rfl (by kernel_rfl) (by kernel_rfl) (by kernel_rfl) (fun _ _ _ h => h) (Or.inl ⟨by rfl, ?_⟩) (by assumption) ?_
  rotate_left
  · intro w hSw; (try dsimp only at hSw); go_split_ands; go_simp; try with_reducible rfl
  try simp only [Act.put, List.setIfInBounds_toArray, List.set_cons_zero, List.set_cons_succ]
  refine wpAnyH_take (i := 25) (oi := ⟨_, _, _, _, _, _⟩) (v := ?_) rfl (by kernel_rfl) (by kernel_rfl) (by kernel_rfl) (fun _ _ _ h => h) (Or.inl ⟨by rfl, ?_⟩) (by assumption) ?_
  rotate_left
  · intro w hSw; (try dsimp only at hSw); go_split_ands; go_simp; try with_reducible rfl
  try simp only [Act.put, List.setIfInBounds_toArray, List.set_cons_zero, List.set_cons_succ]
  refine wpAnyH_ready (rs := [26]) (by kernel_rfl) (by simp) ?_
  refine AllReadyH.cons (o := ⟨_, _, _, _, _, _⟩) rfl (fun K hK => ?_) AllReadyH.nil
  go_simp
  go_at_call 33
  refine (HLV.out _).mono ?_
  rintro e wx ⟨rfl, hb⟩
  have hm := HM.out.below hb
  clear HM hb
  have HM := Lib.hid hm
  clear hm
  refine hK.out _ _ ?_ (fun hHeld => ?_)
  · exact ⟨HC5.out _ (HM.out.to_below (fun _ _ h => h)), HM.out.at_ 3 rfl, HM.out.at_ 1 rfl, HM.out.at_ 0 rfl⟩
  clear hK K
  try simp only [Act.put, List.setIfInBounds_toArray, List.set_cons_zero, List.set_cons_succ]
  refine wpAnyH_take (i := 27) (oi := ⟨_, _, _, _, _, _⟩) (v := ?_) rfl (by kernel_rfl) (by kernel_rfl) (by kernel_rfl) (fun _ _ _ h => h) (Or.inl ⟨by rfl, ?_⟩) (by assumption) ?_
  rotate_left
  · intro w hSw; (try dsimp only at hSw); go_split_ands; go_simp; try with_reducible rfl
  try simp only [Act.put, List.setIfInBounds_toArray, List.set_cons_zero, List.set_cons_succ]
  refine wpAnyH_take (i := 28) (oi := ⟨_, _, _, _, _, _⟩) (v := ?_) rfl (by kernel_rfl) (by kernel_rfl) (by kernel_rfl) (fun _ _ _ h => h) (Or.inl ⟨by rfl, ?_⟩) (by assumption) ?_
  rotate_left
  · intro w hSw; (try dsimp only at hSw); go_split_ands; go_simp; try with_reducible rfl
  try simp only [Act.put, List.setIfInBounds_toArray, List.set_cons_zero, List.set_cons_succ]
  refine wpAnyH_done (by kernel_rfl) ?_ _
  refine NoPanic.normal ?_
  go_wp2_with fail
  go_ret
  exact ⟨rfl, HB0.out.trans ((HM.out.to_below (fun _ _ h => h)).mono HB0.out.size)⟩
theorem codec_writes (r s : Rq) (or : ROk r) (w : World) : Calls Try.prog 6 #[r.v, s.v] w fun e w' => e = .returned (.bool true) ∧ Below w.heap.size w w' := by
  cases hgr : r.good with
  | true => cases hgs : s.good with
    | true => exact writes_gg r s hgr hgs or w
    | false => exact writes_gb r s hgr hgs or w
  | false => exact writes_bad r s hgr w
end Go.Proofs.Ytencgokpbfkeiaa
