/- Requests that are the same, but for what plays no part (layer 29). -/
import Derived.Test.YtencgokpbfkeiaaLv
set_option linter.unusedVariables false
set_option linter.unusedSimpArgs false
namespace Go.Proofs.Ytencgokpbfkeiaa
open Go.ChangeShapes Go.WideShapes Go.ChangeAt Go.RowKit
theorem rq_ext {a b : Rq} (h0 : a.k = b.k) (h1 : a.ck = b.ck) (h2 : a.pi = b.pi) (h3 : a.px = b.px) (h4 : a.py = b.py) (h5 : a.si = b.si) (h6 : a.sl = b.sl) (h7 : a.sh = b.sh) (g0 : a.q.qk = b.q.qk) (g1 : a.q.b1 = b.q.b1) (g2 : a.q.b2 = b.q.b2) (g3 : a.q.b3 = b.q.b3) (g4 : a.q.b4 = b.q.b4) (g5 : a.q.w1 = b.q.w1) (g6 : a.q.w2 = b.q.w2) (g7 : a.q.w3 = b.q.w3) (g8 : a.q.x = b.q.x) (g9 : a.q.h = b.q.h) : a = b := by
  obtain ⟨ak, ack, api, apx, apy, asi, asl, ash, ⟨aqqk, aqb1, aqb2, aqb3, aqb4, aqw1, aqw2, aqw3, aqx, aqh⟩⟩ := a
  obtain ⟨bk, bck, bpi, bpx, bpy, bsi, bsl, bsh, ⟨bqqk, bqb1, bqb2, bqb3, bqb4, bqw1, bqw2, bqw3, bqx, bqh⟩⟩ := b
  simp only at h0 h1 h2 h3 h4 h5 h6 h7 g0 g1 g2 g3 g4 g5 g6 g7 g8 g9
  subst h0 h1 h2 h3 h4 h5 h6 h7 g0 g1 g2 g3 g4 g5 g6 g7 g8 g9
  rfl
set_option maxRecDepth 100000 in
set_option maxHeartbeats 8000000 in
theorem eq_rr (a b : Rq) (W : World) : (binOp .eql 57 a.v b.v).run Try.prog W = .ok (.bool (decide (a = b))) W := by
  by_cases h : a = b
  · subst h
    rw [decide_eq_true rfl]
    unfold Rq.v
    go_simp
  · rw [decide_eq_false h]
    have H := Lib.hid h
    clear h
    unfold Rq.v
    go_simp
    intro q0 q1 q2 q3 q4 q5 q6 q7 q8 q9 q10 q11 q12 q13 q14 q15 q16 q17
    exact H.out (rq_ext q0 q1 q2 q3 q4 q5 q6 q7 q8 q9 q10 q11 q12 q13 q14 q15 q16 q17)
set_option maxRecDepth 100000 in
set_option maxHeartbeats 8000000 in
theorem same_any2 (r s : Rq) (w : World) : Calls Try.prog 36 #[r.v, s.v] w fun e w' => e = .returned (.bool (decide (r.only = s.only))) ∧ Below w.heap.size w w' := by
  obtain ⟨R1, hR1⟩ : ∃ R1 : Rq, R1 = r.only := ⟨_, rfl⟩
  obtain ⟨R2, hR2⟩ : ∃ R2 : Rq, R2 = s.only := ⟨_, rfl⟩
  have H1 : Hid (∀ W, Calls Try.prog 32 #[.agg #[.int .i64 r.k, .int .i64 r.ck, .int .i64 r.pi, .int .i64 r.px, .int .i64 r.py, .int .i64 r.si, .int .i64 r.sl, .int .i64 r.sh, .int .i64 r.q.qk, .int .i64 r.q.b1, .int .i64 r.q.b2, .int .i64 r.q.b3, .int .i64 r.q.b4, .int .i64 r.q.w1, .int .i64 r.q.w2, .int .i64 r.q.w3, .int .i64 r.q.x, .int .i64 r.q.h]] W fun e w' => e = .returned (.agg #[.int .i64 R1.k, .int .i64 R1.ck, .int .i64 R1.pi, .int .i64 R1.px, .int .i64 R1.py, .int .i64 R1.si, .int .i64 R1.sl, .int .i64 R1.sh, .int .i64 R1.q.qk, .int .i64 R1.q.b1, .int .i64 R1.q.b2, .int .i64 R1.q.b3, .int .i64 R1.q.b4, .int .i64 R1.q.w1, .int .i64 R1.q.w2, .int .i64 R1.q.w3, .int .i64 R1.q.x, .int .i64 R1.q.h]) ∧ Below W.heap.size W w') := Lib.hid (fun W => by rw [hR1]; exact Go.Proofs.Ytencgokpbfkeiaa.only_any r W)
  have H2 : Hid (∀ W, Calls Try.prog 32 #[.agg #[.int .i64 s.k, .int .i64 s.ck, .int .i64 s.pi, .int .i64 s.px, .int .i64 s.py, .int .i64 s.si, .int .i64 s.sl, .int .i64 s.sh, .int .i64 s.q.qk, .int .i64 s.q.b1, .int .i64 s.q.b2, .int .i64 s.q.b3, .int .i64 s.q.b4, .int .i64 s.q.w1, .int .i64 s.q.w2, .int .i64 s.q.w3, .int .i64 s.q.x, .int .i64 s.q.h]] W fun e w' => e = .returned (.agg #[.int .i64 R2.k, .int .i64 R2.ck, .int .i64 R2.pi, .int .i64 R2.px, .int .i64 R2.py, .int .i64 R2.si, .int .i64 R2.sl, .int .i64 R2.sh, .int .i64 R2.q.qk, .int .i64 R2.q.b1, .int .i64 R2.q.b2, .int .i64 R2.q.b3, .int .i64 R2.q.b4, .int .i64 R2.q.w1, .int .i64 R2.q.w2, .int .i64 R2.q.w3, .int .i64 R2.q.x, .int .i64 R2.q.h]) ∧ Below W.heap.size W w') := Lib.hid (fun W => by rw [hR2]; exact Go.Proofs.Ytencgokpbfkeiaa.only_any s W)
  rw [← hR1, ← hR2]
  clear hR1 hR2
  have heq := eq_rr R1 R2
  unfold Rq.v at heq
  obtain ⟨bb, hbb⟩ : ∃ bb, bb = decide (R1 = R2) := ⟨_, rfl⟩
  rw [← hbb] at heq ⊢
  clear hbb
  have HM : Hid (Mem (fun _ => False) w [] w) := Lib.hid (Mem.start _ w)
  unfold Rq.v
  go_enter Try.func36, Try.ntmps36
  go_upto_region 1 with (first | (with_reducible refine wpl_box (d := some 2) (fun K hK => ?_); refine wp_box_ma _ _ rfl HM.out _ rfl ?_; intro w9 kr hm; clear HM; have HM := Lib.hid hm; clear hm; refine hK _ _ ?_; clear hK K; try simp only [Act.put, List.setIfInBounds_toArray, List.set_cons_zero, List.set_cons_succ]) | (with_reducible refine wpl_load (ty := 57) (fun K hK => ?_); refine wp_load_at _ _ rfl _ _ rfl ?_; (first | refine LoadAt.row (n := 18) HM.out 0 rfl (by kernel_rfl) (by kernel_rfl) (Nat.le_of_ble_eq_true rfl) ?_ | refine LoadAt.row (n := 18) HM.out 1 rfl (by kernel_rfl) (by kernel_rfl) (Nat.le_of_ble_eq_true rfl) ?_); intro r hr; simp only [List.drop_zero, List.drop_succ_cons, List.take_zero, List.take_succ_cons, List.take_nil] at hr; subst hr; refine hK _ _ ?_; clear hK K; try simp only [Act.put, List.setIfInBounds_toArray, List.set_cons_zero, List.set_cons_succ]) | (with_reducible refine wpl_load (fun K hK => ?_); refine wp_load_at _ _ rfl _ _ rfl ?_; (first | refine LoadAt.one HM.out 0 rfl (by kernel_rfl) (Nat.le_of_ble_eq_true rfl) ?_ | refine LoadAt.one HM.out 1 rfl (by kernel_rfl) (Nat.le_of_ble_eq_true rfl) ?_); intro v hv; simp only [List.getElem?_cons_zero, List.getElem?_cons_succ, Option.some.injEq] at hv; subst hv; refine hK _ _ ?_; clear hK K; try simp only [Act.put, List.setIfInBounds_toArray, List.set_cons_zero, List.set_cons_succ]) | (with_reducible refine wpl_store (ty := 57) (fun K hK => ?_); refine wp_store_at _ _ _ rfl _ _ rfl (.agg (List.toArray _)) rfl ?_; (first | refine StoreAt.row HM.out 0 rfl (Nat.le_of_ble_eq_true rfl) (by kernel_rfl) rfl ?_ | refine StoreAt.row HM.out 1 rfl (Nat.le_of_ble_eq_true rfl) (by kernel_rfl) rfl ?_); intro w9 new hnew hm; simp only [setAll, overlay] at hnew; subst hnew; simp only [List.set_cons_zero, List.set_cons_succ] at hm; clear HM; have HM := Lib.hid hm; clear hm; refine hK _ _ ?_; clear hK K; try simp only [Act.put, List.setIfInBounds_toArray, List.set_cons_zero, List.set_cons_succ]) | (with_reducible refine wpl_box (ty := 57) (fun K hK => ?_); refine wp_box_ma _ _ rfl HM.out _ rfl ?_; intro w9 kb9 hm; clear HM; have HM := Lib.hid hm; clear hm; refine hK _ _ ?_; clear hK K; try simp only [Act.put, List.setIfInBounds_toArray, List.set_cons_zero, List.set_cons_succ]) | fail)
  refine wp_region_noPanic ?_
  refine wp_region_held_drew (S := (fun w' => Blk w' kr 57 #[.int .i64 r.k, .int .i64 r.ck, .int .i64 r.pi, .int .i64 r.px, .int .i64 r.py, .int .i64 r.si, .int .i64 r.sl, .int .i64 r.sh, .int .i64 r.q.qk, .int .i64 r.q.b1, .int .i64 r.q.b2, .int .i64 r.q.b3, .int .i64 r.q.b4, .int .i64 r.q.w1, .int .i64 r.q.w2, .int .i64 r.q.w3, .int .i64 r.q.x, .int .i64 r.q.h] ∧ Blk w' kb9 57 #[.int .i64 s.k, .int .i64 s.ck, .int .i64 s.pi, .int .i64 s.px, .int .i64 s.py, .int .i64 s.si, .int .i64 s.sl, .int .i64 s.sh, .int .i64 s.q.qk, .int .i64 s.q.b1, .int .i64 s.q.b2, .int .i64 s.q.b3, .int .i64 s.q.b4, .int .i64 s.q.w1, .int .i64 s.q.w2, .int .i64 s.q.w3, .int .i64 s.q.x, .int .i64 s.q.h])) (by kernel_rfl) ?_ (fun hHeld => ?_)
  · exact ⟨HM.out.at_ 1 rfl, HM.out.at_ 0 rfl⟩
  have hm := HM.out.drew
  clear HM
  have HM := Lib.hid hm
  clear hm
  refine wpAnyH_take (i := 0) (oi := ⟨_, _, _, _, _, _⟩) (v := .agg #[.int .i64 r.k, .int .i64 r.ck, .int .i64 r.pi, .int .i64 r.px, .int .i64 r.py, .int .i64 r.si, .int .i64 r.sl, .int .i64 r.sh, .int .i64 r.q.qk, .int .i64 r.q.b1, .int .i64 r.q.b2, .int .i64 r.q.b3, .int .i64 r.q.b4, .int .i64 r.q.w1, .int .i64 r.q.w2, .int .i64 r.q.w3, .int .i64 r.q.x, .int .i64 r.q.h]) rfl (by kernel_rfl) (by kernel_rfl) (by kernel_rfl) (fun _ _ _ h => h) (yieldsIf_load_mid (by rfl) 57 (.tmp 2) rfl _ 0 rfl [.int .i64 r.k, .int .i64 r.ck, .int .i64 r.pi, .int .i64 r.px, .int .i64 r.py, .int .i64 r.si, .int .i64 r.sl, .int .i64 r.sh, .int .i64 r.q.qk, .int .i64 r.q.b1, .int .i64 r.q.b2, .int .i64 r.q.b3, .int .i64 r.q.b4, .int .i64 r.q.w1, .int .i64 r.q.w2, .int .i64 r.q.w3, .int .i64 r.q.x, .int .i64 r.q.h] _ (fun w h => range_of_blk h.1 0 18 _ rfl) Try.underlying57 rfl (by kernel_rfl)) (by assumption) ?_
  try simp only [Act.put, List.setIfInBounds_toArray, List.set_cons_zero, List.set_cons_succ]
  refine wpAnyH_take (i := 2) (oi := ⟨_, _, _, _, _, _⟩) (v := .agg #[.int .i64 s.k, .int .i64 s.ck, .int .i64 s.pi, .int .i64 s.px, .int .i64 s.py, .int .i64 s.si, .int .i64 s.sl, .int .i64 s.sh, .int .i64 s.q.qk, .int .i64 s.q.b1, .int .i64 s.q.b2, .int .i64 s.q.b3, .int .i64 s.q.b4, .int .i64 s.q.w1, .int .i64 s.q.w2, .int .i64 s.q.w3, .int .i64 s.q.x, .int .i64 s.q.h]) rfl (by kernel_rfl) (by kernel_rfl) (by kernel_rfl) (fun _ _ _ h => h) (yieldsIf_load_mid (by rfl) 57 (.tmp 3) rfl _ 0 rfl [.int .i64 s.k, .int .i64 s.ck, .int .i64 s.pi, .int .i64 s.px, .int .i64 s.py, .int .i64 s.si, .int .i64 s.sl, .int .i64 s.sh, .int .i64 s.q.qk, .int .i64 s.q.b1, .int .i64 s.q.b2, .int .i64 s.q.b3, .int .i64 s.q.b4, .int .i64 s.q.w1, .int .i64 s.q.w2, .int .i64 s.q.w3, .int .i64 s.q.x, .int .i64 s.q.h] _ (fun w h => range_of_blk h.2 0 18 _ rfl) Try.underlying57 rfl (by kernel_rfl)) (by assumption) ?_
  try simp only [Act.put, List.setIfInBounds_toArray, List.set_cons_zero, List.set_cons_succ]
  refine wpAnyH_ready (rs := [1]) (by kernel_rfl) (by simp) ?_
  refine AllReadyH.cons (o := ⟨_, _, _, _, _, _⟩) rfl (fun K hK => ?_) AllReadyH.nil
  go_simp
  go_at_call 32
  refine (H1.out _).mono ?_
  rintro e wx ⟨rfl, hb⟩
  have hm := HM.out.below hb
  clear HM hb
  have HM := Lib.hid hm
  clear hm
  refine hK.out _ _ ?_ (fun hHeld => ?_)
  · exact ⟨HM.out.at_ 1 rfl, HM.out.at_ 0 rfl⟩
  clear hK K
  try simp only [Act.put, List.setIfInBounds_toArray, List.set_cons_zero, List.set_cons_succ]
  refine wpAnyH_ready (rs := [3]) (by kernel_rfl) (by simp) ?_
  refine AllReadyH.cons (o := ⟨_, _, _, _, _, _⟩) rfl (fun K hK => ?_) AllReadyH.nil
  go_simp
  go_at_call 32
  refine (H2.out _).mono ?_
  rintro e wx ⟨rfl, hb⟩
  have hm := HM.out.below hb
  clear HM hb
  have HM := Lib.hid hm
  clear hm
  refine hK.out _ _ ?_ (fun hHeld => ?_)
  · exact ⟨HM.out.at_ 1 rfl, HM.out.at_ 0 rfl⟩
  clear hK K
  try simp only [Act.put, List.setIfInBounds_toArray, List.set_cons_zero, List.set_cons_succ]
  refine wpAnyH_take (i := 4) (oi := ⟨_, _, _, _, _, _⟩) (v := ?_) rfl (by kernel_rfl) (by kernel_rfl) (by kernel_rfl) (fun _ _ _ h => h) (Or.inl ⟨by rfl, ?_⟩) (by assumption) ?_
  rotate_left
  · intro w hSw; (try dsimp only at hSw); go_split_ands; go_simp; try with_reducible rfl
  try simp only [Act.put, List.setIfInBounds_toArray, List.set_cons_zero, List.set_cons_succ]
  refine wpAnyH_take (i := 5) (oi := ⟨_, _, _, _, _, _⟩) (v := ?_) rfl (by kernel_rfl) (by kernel_rfl) (by kernel_rfl) (fun _ _ _ h => h) (Or.inl ⟨by rfl, ?_⟩) (by assumption) ?_
  rotate_left
  · intro w hSw; (try dsimp only at hSw); go_split_ands; go_simp; try with_reducible rfl
  try simp only [Act.put, List.setIfInBounds_toArray, List.set_cons_zero, List.set_cons_succ]
  refine wpAnyH_done (by kernel_rfl) ?_ _
  refine NoPanic.normal ?_
  go_wp2_with fail
  go_ret
  exact ⟨rfl, HM.out.to_below (fun _ _ h => h)⟩
end Go.Proofs.Ytencgokpbfkeiaa
