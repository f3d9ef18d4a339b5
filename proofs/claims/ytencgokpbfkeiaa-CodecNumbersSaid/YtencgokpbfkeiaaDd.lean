/- The request whose bytes a list is (layer 29). -/
import Derived.Test.YtencgokpbfkeiaaDe
import Derived.Test.YtencgokpbfkeiaaFl
set_option linter.unusedVariables false
set_option linter.unusedSimpArgs false
namespace Go.Proofs.Ytencgokpbfkeiaa
open Go.ChangeShapes Go.WideShapes Go.ChangeAt Go.RowKit
/-- so many numbers off a list of bytes -/
def rdn : Nat → List Int → Option (List Int × List Int)
  | 0, bs => some ([], bs)
  | k + 1, bs => match rd 0 0 bs with
    | none => none
    | some (Z, s) => match rdn k (bs.drop s) with
      | none => none
      | some (l, r) => some (zag Z :: l, r)
/-- the request whose bytes a list is -/
def dec : List Int → Option Rq
  | [] => none
  | c :: bs => if (hdr c).good = true then match rdn (rnums (hdr c)).length bs with
      | some (l, []) => some (fil (hdr c) l)
      | _ => none
    else none
def DecP (d : Option Rq) (w w' : World) (e : Ending) : Prop := (match d with | none => e = .returned (.tuple #[.agg #[.int .i64 0, .int .i64 0, .int .i64 0, .int .i64 0, .int .i64 0, .int .i64 0, .int .i64 0, .int .i64 0, .int .i64 0, .int .i64 0, .int .i64 0, .int .i64 0, .int .i64 0, .int .i64 0, .int .i64 0, .int .i64 0, .int .i64 0, .int .i64 0], .int .i64 8]) | some r => e = .returned (.tuple #[r.v, .int .i64 0])) ∧ Below w.heap.size w w'
theorem DecP.no {d : Option Rq} {w w' : World} {e : Ending} (hd : d = none) (he : e = .returned (.tuple #[.agg #[.int .i64 0, .int .i64 0, .int .i64 0, .int .i64 0, .int .i64 0, .int .i64 0, .int .i64 0, .int .i64 0, .int .i64 0, .int .i64 0, .int .i64 0, .int .i64 0, .int .i64 0, .int .i64 0, .int .i64 0, .int .i64 0, .int .i64 0, .int .i64 0], .int .i64 8])) (hb : Below w.heap.size w w') : DecP d w w' e := by subst hd; exact ⟨he, hb⟩
theorem DecP.yes {d : Option Rq} {w w' : World} {e : Ending} {r : Rq} (hd : d = some r) (he : e = .returned (.tuple #[r.v, .int .i64 0])) (hb : Below w.heap.size w w') : DecP d w w' e := by subst hd; exact ⟨he, hb⟩
theorem Mem.old_cell {w W : World} {l : List Ent} (h : Mem (fun _ => False) w l W) {b o : Nat} {v : Value} (hc : w.cell? ⟨b, o, none⟩ = some v) : W.cell? ⟨b, o, none⟩ = some v := by
  have hb : b < w.heap.size := block_lt_of_cell hc
  rw [(h.to_below (fun _ _ h => h)).cell (p := ⟨b, o, none⟩) hb]
  exact hc
theorem good_codes (c : Int) (h : 0 ≤ c ∧ c < 256) (hg : (hdr c).good = true) : c = 1 ∨ c = 2 ∨ c = 3 ∨ c = 4 ∨ c = 17 ∨ c = 18 ∨ c = 19 ∨ c = 20 ∨ c = 21 ∨ c = 22 ∨ c = 23 := by
  unfold hdr at hg
  by_cases hc : c < 16
  · rw [if_pos hc] at hg; simp only [Rq.good, decide_eq_true_eq] at hg; omega
  · rw [if_neg hc] at hg; simp only [Rq.good, decide_eq_true_eq] at hg; omega
set_option maxRecDepth 100000 in
set_option maxHeartbeats 8000000 in
theorem fil_any (c : Int) (h : 0 ≤ c ∧ c < 256) (hg : (hdr c).good = true) (g : Nat) (l : List Int) (w : World) (hl : l.length = (rnums (hdr c)).length) (hb : Blk w g 3 (iv l).toArray) :
    Calls Try.prog 67 #[(hdr c).v, .slice (some ⟨g, 0, none⟩) l.length l.length] w fun e w' => e = .returned (fil (hdr c) l).v ∧ Below w.heap.size w w' := by
  rcases good_codes c h hg with rfl | rfl | rfl | rfl | rfl | rfl | rfl | rfl | rfl | rfl | rfl
  · change l.length = 3 at hl
    obtain ⟨l0, t0, rfl, h0⟩ := len_cons hl
    obtain ⟨l1, t1, rfl, h1⟩ := len_cons h0
    obtain ⟨l2, t2, rfl, h2⟩ := len_cons h1
    obtain rfl := List.eq_nil_of_length_eq_zero h2
    exact fi_c1 g l0 l1 l2 w hb
  · change l.length = 1 at hl
    obtain ⟨l0, t0, rfl, h0⟩ := len_cons hl
    obtain rfl := List.eq_nil_of_length_eq_zero h0
    exact fi_c2 g l0 w hb
  · change l.length = 3 at hl
    obtain ⟨l0, t0, rfl, h0⟩ := len_cons hl
    obtain ⟨l1, t1, rfl, h1⟩ := len_cons h0
    obtain ⟨l2, t2, rfl, h2⟩ := len_cons h1
    obtain rfl := List.eq_nil_of_length_eq_zero h2
    exact fi_c3 g l0 l1 l2 w hb
  · change l.length = 1 at hl
    obtain ⟨l0, t0, rfl, h0⟩ := len_cons hl
    obtain rfl := List.eq_nil_of_length_eq_zero h0
    exact fi_c4 g l0 w hb
  · change l.length = 4 at hl
    obtain ⟨l0, t0, rfl, h0⟩ := len_cons hl
    obtain ⟨l1, t1, rfl, h1⟩ := len_cons h0
    obtain ⟨l2, t2, rfl, h2⟩ := len_cons h1
    obtain ⟨l3, t3, rfl, h3⟩ := len_cons h2
    obtain rfl := List.eq_nil_of_length_eq_zero h3
    exact fi_q1 g l0 l1 l2 l3 w hb
  · change l.length = 4 at hl
    obtain ⟨l0, t0, rfl, h0⟩ := len_cons hl
    obtain ⟨l1, t1, rfl, h1⟩ := len_cons h0
    obtain ⟨l2, t2, rfl, h2⟩ := len_cons h1
    obtain ⟨l3, t3, rfl, h3⟩ := len_cons h2
    obtain rfl := List.eq_nil_of_length_eq_zero h3
    exact fi_q2 g l0 l1 l2 l3 w hb
  · change l.length = 3 at hl
    obtain ⟨l0, t0, rfl, h0⟩ := len_cons hl
    obtain ⟨l1, t1, rfl, h1⟩ := len_cons h0
    obtain ⟨l2, t2, rfl, h2⟩ := len_cons h1
    obtain rfl := List.eq_nil_of_length_eq_zero h2
    exact fi_q3 g l0 l1 l2 w hb
  · change l.length = 3 at hl
    obtain ⟨l0, t0, rfl, h0⟩ := len_cons hl
    obtain ⟨l1, t1, rfl, h1⟩ := len_cons h0
    obtain ⟨l2, t2, rfl, h2⟩ := len_cons h1
    obtain rfl := List.eq_nil_of_length_eq_zero h2
    exact fi_q4 g l0 l1 l2 w hb
  · change l.length = 1 at hl
    obtain ⟨l0, t0, rfl, h0⟩ := len_cons hl
    obtain rfl := List.eq_nil_of_length_eq_zero h0
    exact fi_q5 g l0 w hb
  · change l.length = 2 at hl
    obtain ⟨l0, t0, rfl, h0⟩ := len_cons hl
    obtain ⟨l1, t1, rfl, h1⟩ := len_cons h0
    obtain rfl := List.eq_nil_of_length_eq_zero h1
    exact fi_q6 g l0 l1 w hb
  · change l.length = 2 at hl
    obtain ⟨l0, t0, rfl, h0⟩ := len_cons hl
    obtain ⟨l1, t1, rfl, h1⟩ := len_cons h0
    obtain rfl := List.eq_nil_of_length_eq_zero h1
    exact fi_q7 g l0 l1 w hb
set_option maxRecDepth 100000 in
set_option maxHeartbeats 8000000 in
theorem dec_empty (A : Option Addr) (c : Nat) (l : List Int) (w : World) (hl : l = []) : Calls Try.prog 35 #[.slice A 0 c] w fun e w' => DecP (dec l) w w' e := by
  have HD : Hid (dec l = none) := Lib.hid (by rw [hl]; rfl)
  clear hl
  have HM : Hid (Mem (fun _ => False) w [] w) := Lib.hid (Mem.start _ w)
  go_enter Try.func35, Try.ntmps35
  go_wp2_with (first | (with_reducible refine wpl_load (ty := 57) (fun K hK => ?_); refine wp_load_at _ _ rfl _ _ rfl ?_; refine LoadAt.row (n := 18) HM.out 0 rfl (by kernel_rfl) (by kernel_rfl) (Nat.le_of_ble_eq_true rfl) ?_; intro r hr; simp only [List.drop_zero, List.drop_succ_cons, List.take_zero, List.take_succ_cons, List.take_nil] at hr; subst hr; refine hK _ _ ?_; clear hK K; try simp only [Act.put, List.setIfInBounds_toArray, List.set_cons_zero, List.set_cons_succ]) | (with_reducible refine wpl_load (fun K hK => ?_); refine wp_load_at _ _ rfl _ _ rfl ?_; refine LoadAt.one HM.out 0 rfl (by kernel_rfl) (Nat.le_of_ble_eq_true rfl) ?_; intro v hv; simp only [List.getElem?_cons_zero, List.getElem?_cons_succ, Option.some.injEq] at hv; subst hv; refine hK _ _ ?_; clear hK K; try simp only [Act.put, List.setIfInBounds_toArray, List.set_cons_zero, List.set_cons_succ]) | (with_reducible refine wpl_store (ty := 57) (fun K hK => ?_); refine wp_store_at _ _ _ rfl _ _ rfl (.agg (List.toArray _)) rfl ?_; refine StoreAt.row HM.out 0 rfl (Nat.le_of_ble_eq_true rfl) (by kernel_rfl) rfl ?_; intro w9 new hnew hm; simp only [setAll, overlay] at hnew; subst hnew; simp only [List.set_cons_zero, List.set_cons_succ] at hm; clear HM; have HM := Lib.hid hm; clear hm; refine hK _ _ ?_; clear hK K; try simp only [Act.put, List.setIfInBounds_toArray, List.set_cons_zero, List.set_cons_succ]) | (with_reducible refine wpl_store (ty := 3) (fun K hK => ?_); refine wp_store_at _ _ _ rfl _ _ rfl (.int _ _) rfl ?_; refine StoreAt.one HM.out 0 rfl (Nat.le_of_ble_eq_true rfl) rfl (by kernel_rfl) rfl ?_; intro w9 new hnew hm; simp only [List.set_cons_zero, List.set_cons_succ] at hnew; subst hnew; simp only [List.set_cons_zero, List.set_cons_succ] at hm; clear HM; have HM := Lib.hid hm; clear hm; refine hK _ _ ?_; clear hK K; try simp only [Act.put, List.setIfInBounds_toArray, List.set_cons_zero, List.set_cons_succ]) | (with_reducible refine wpl_alloc (ty := 57) (fun K hK => ?_); refine wp_alloc_ma 57 rfl HM.out [.int .i64 0, .int .i64 0, .int .i64 0, .int .i64 0, .int .i64 0, .int .i64 0, .int .i64 0, .int .i64 0, .int .i64 0, .int .i64 0, .int .i64 0, .int .i64 0, .int .i64 0, .int .i64 0, .int .i64 0, .int .i64 0, .int .i64 0, .int .i64 0] (by kernel_rfl) ?_; intro w9 k9 hm; clear HM; have HM := Lib.hid hm; clear hm; refine hK _ _ ?_; clear hK K; try simp only [Act.put, List.setIfInBounds_toArray, List.set_cons_zero, List.set_cons_succ]) | (with_reducible refine wpl_box (ty := 57) (fun K hK => ?_); refine wp_box_ma _ _ rfl HM.out _ rfl ?_; intro w9 kb9 hm; clear HM; have HM := Lib.hid hm; clear hm; refine hK _ _ ?_; clear hK K; try simp only [Act.put, List.setIfInBounds_toArray, List.set_cons_zero, List.set_cons_succ]) | (with_reducible refine wpl_box (ty := 3) (fun K hK => ?_); refine wp_box_m1 _ _ rfl HM.out (.int _ _) rfl rfl ?_; intro w9 kb9 hm; clear HM; have HM := Lib.hid hm; clear hm; refine hK _ _ ?_; clear hK K; try simp only [Act.put, List.setIfInBounds_toArray, List.set_cons_zero, List.set_cons_succ]) | fail)
  exact bodyPost_ret (v := _) (results_blk2 rfl _ (HM.out.at_ 0 rfl) _ _ rfl rfl Try.underlying57 rfl (by kernel_rfl)) rfl (DecP.no HD.out rfl (HM.out.to_below (fun _ _ h => h)))
set_option maxRecDepth 100000 in
set_option maxHeartbeats 8000000 in
theorem dec_bad (b off n c : Nat) (l : List Int) (x : Int) (w : World) (hn : 0 < n) (p : w.cell? ⟨b, off, none⟩ = some (.int .u8 x)) (hx : 0 ≤ x ∧ x < 256) (hl : ∃ bs, l = x :: bs) (hg : (hdr x).good = false) : Calls Try.prog 35 #[.slice (some ⟨b, off, none⟩) n c] w fun e w' => DecP (dec l) w w' e := by
  have HD : Hid (dec l = none) := Lib.hid (by obtain ⟨bs, rfl⟩ := hl; simp only [dec]; rw [if_neg (by rw [hg]; decide)])
  have hr1 : IntKind.i64.wrap 0 = 0 := by decide
  have t0 : ((n : Int) == 0) = false := by simp; omega
  have t1 : (0 : Int) < (n : Int) := by omega
  have t2 : 0 < n := hn
  obtain ⟨r, hr⟩ : ∃ r, r = hdr x := ⟨_, rfl⟩
  have HHD : Hid (∀ W, Calls Try.prog 66 #[.int .u8 x] W fun e w' => e = .returned (.agg #[.int .i64 r.k, .int .i64 r.ck, .int .i64 r.pi, .int .i64 r.px, .int .i64 r.py, .int .i64 r.si, .int .i64 r.sl, .int .i64 r.sh, .int .i64 r.q.qk, .int .i64 r.q.b1, .int .i64 r.q.b2, .int .i64 r.q.b3, .int .i64 r.q.b4, .int .i64 r.q.w1, .int .i64 r.q.w2, .int .i64 r.q.w3, .int .i64 r.q.x, .int .i64 r.q.h]) ∧ Below W.heap.size W w') := Lib.hid (fun W => by rw [hr]; exact head_any x hx W)
  have HGD : Hid (∀ W, Calls Try.prog 30 #[.agg #[.int .i64 r.k, .int .i64 r.ck, .int .i64 r.pi, .int .i64 r.px, .int .i64 r.py, .int .i64 r.si, .int .i64 r.sl, .int .i64 r.sh, .int .i64 r.q.qk, .int .i64 r.q.b1, .int .i64 r.q.b2, .int .i64 r.q.b3, .int .i64 r.q.b4, .int .i64 r.q.w1, .int .i64 r.q.w2, .int .i64 r.q.w3, .int .i64 r.q.x, .int .i64 r.q.h]] W fun e w' => e = .returned (.bool false) ∧ Below W.heap.size W w') := Lib.hid (fun W => by have h := good_r r W; rw [hr, hg] at h; rw [hr]; exact h)
  have HP := Lib.hid p
  clear hl hr hg hx p hn
  have HM : Hid (Mem (fun _ => False) w [] w) := Lib.hid (Mem.start _ w)
  go_enter Try.func35, Try.ntmps35
  go_upto_region 1 with (first | (with_reducible refine wpl_load (ty := 57) (fun K hK => ?_); refine wp_load_at _ _ rfl _ _ rfl ?_; refine LoadAt.row (n := 18) HM.out 0 rfl (by kernel_rfl) (by kernel_rfl) (Nat.le_of_ble_eq_true rfl) ?_; intro r hr; simp only [List.drop_zero, List.drop_succ_cons, List.take_zero, List.take_succ_cons, List.take_nil] at hr; subst hr; refine hK _ _ ?_; clear hK K; try simp only [Act.put, List.setIfInBounds_toArray, List.set_cons_zero, List.set_cons_succ]) | (with_reducible refine wpl_load (fun K hK => ?_); refine wp_load_at _ _ rfl _ _ rfl ?_; refine LoadAt.one HM.out 0 rfl (by kernel_rfl) (Nat.le_of_ble_eq_true rfl) ?_; intro v hv; simp only [List.getElem?_cons_zero, List.getElem?_cons_succ, Option.some.injEq] at hv; subst hv; refine hK _ _ ?_; clear hK K; try simp only [Act.put, List.setIfInBounds_toArray, List.set_cons_zero, List.set_cons_succ]) | (with_reducible refine wpl_store (ty := 57) (fun K hK => ?_); refine wp_store_at _ _ _ rfl _ _ rfl (.agg (List.toArray _)) rfl ?_; refine StoreAt.row HM.out 0 rfl (Nat.le_of_ble_eq_true rfl) (by kernel_rfl) rfl ?_; intro w9 new hnew hm; simp only [setAll, overlay] at hnew; subst hnew; simp only [List.set_cons_zero, List.set_cons_succ] at hm; clear HM; have HM := Lib.hid hm; clear hm; refine hK _ _ ?_; clear hK K; try simp only [Act.put, List.setIfInBounds_toArray, List.set_cons_zero, List.set_cons_succ]) | (with_reducible refine wpl_store (ty := 3) (fun K hK => ?_); refine wp_store_at _ _ _ rfl _ _ rfl (.int _ _) rfl ?_; refine StoreAt.one HM.out 0 rfl (Nat.le_of_ble_eq_true rfl) rfl (by kernel_rfl) rfl ?_; intro w9 new hnew hm; simp only [List.set_cons_zero, List.set_cons_succ] at hnew; subst hnew; simp only [List.set_cons_zero, List.set_cons_succ] at hm; clear HM; have HM := Lib.hid hm; clear hm; refine hK _ _ ?_; clear hK K; try simp only [Act.put, List.setIfInBounds_toArray, List.set_cons_zero, List.set_cons_succ]) | (with_reducible refine wpl_alloc (ty := 57) (fun K hK => ?_); refine wp_alloc_ma 57 rfl HM.out [.int .i64 0, .int .i64 0, .int .i64 0, .int .i64 0, .int .i64 0, .int .i64 0, .int .i64 0, .int .i64 0, .int .i64 0, .int .i64 0, .int .i64 0, .int .i64 0, .int .i64 0, .int .i64 0, .int .i64 0, .int .i64 0, .int .i64 0, .int .i64 0] (by kernel_rfl) ?_; intro w9 k9 hm; clear HM; have HM := Lib.hid hm; clear hm; refine hK _ _ ?_; clear hK K; try simp only [Act.put, List.setIfInBounds_toArray, List.set_cons_zero, List.set_cons_succ]) | (with_reducible refine wpl_box (ty := 57) (fun K hK => ?_); refine wp_box_ma _ _ rfl HM.out _ rfl ?_; intro w9 kb9 hm; clear HM; have HM := Lib.hid hm; clear hm; refine hK _ _ ?_; clear hK K; try simp only [Act.put, List.setIfInBounds_toArray, List.set_cons_zero, List.set_cons_succ]) | (with_reducible refine wpl_box (ty := 3) (fun K hK => ?_); refine wp_box_m1 _ _ rfl HM.out (.int _ _) rfl rfl ?_; intro w9 kb9 hm; clear HM; have HM := Lib.hid hm; clear hm; refine hK _ _ ?_; clear hK K; try simp only [Act.put, List.setIfInBounds_toArray, List.set_cons_zero, List.set_cons_succ]) | fail)
  have p := HM.out.old_cell HP.out
  go_upto_region 4 with (first | (go_at_call 66; refine (HHD.out _).mono ?_; rintro e wx ⟨rfl, hb⟩; have hm := HM.out.below hb; clear HM; have HM := Lib.hid hm; clear hm hb) | (with_reducible refine wpl_load (ty := 57) (fun K hK => ?_); refine wp_load_at _ _ rfl _ _ rfl ?_; (first | refine LoadAt.row (n := 18) HM.out 0 rfl (by kernel_rfl) (by kernel_rfl) (Nat.le_of_ble_eq_true rfl) ?_ | refine LoadAt.row (n := 18) HM.out 1 rfl (by kernel_rfl) (by kernel_rfl) (Nat.le_of_ble_eq_true rfl) ?_); intro r hr; simp only [List.drop_zero, List.drop_succ_cons, List.take_zero, List.take_succ_cons, List.take_nil] at hr; subst hr; refine hK _ _ ?_; clear hK K; try simp only [Act.put, List.setIfInBounds_toArray, List.set_cons_zero, List.set_cons_succ]) | (with_reducible refine wpl_load (fun K hK => ?_); refine wp_load_at _ _ rfl _ _ rfl ?_; (first | refine LoadAt.one HM.out 0 rfl (by kernel_rfl) (Nat.le_of_ble_eq_true rfl) ?_ | refine LoadAt.one HM.out 1 rfl (by kernel_rfl) (Nat.le_of_ble_eq_true rfl) ?_); intro v hv; simp only [List.getElem?_cons_zero, List.getElem?_cons_succ, Option.some.injEq] at hv; subst hv; refine hK _ _ ?_; clear hK K; try simp only [Act.put, List.setIfInBounds_toArray, List.set_cons_zero, List.set_cons_succ]) | (with_reducible refine wpl_store (ty := 57) (fun K hK => ?_); refine wp_store_at _ _ _ rfl _ _ rfl (.agg (List.toArray _)) rfl ?_; (first | refine StoreAt.row HM.out 0 rfl (Nat.le_of_ble_eq_true rfl) (by kernel_rfl) rfl ?_ | refine StoreAt.row HM.out 1 rfl (Nat.le_of_ble_eq_true rfl) (by kernel_rfl) rfl ?_); intro w9 new hnew hm; simp only [setAll, overlay] at hnew; subst hnew; simp only [List.set_cons_zero, List.set_cons_succ] at hm; clear HM; have HM := Lib.hid hm; clear hm; refine hK _ _ ?_; clear hK K; try simp only [Act.put, List.setIfInBounds_toArray, List.set_cons_zero, List.set_cons_succ]) | (with_reducible refine wpl_store (ty := 3) (fun K hK => ?_); refine wp_store_at _ _ _ rfl _ _ rfl (.int _ _) rfl ?_; (first | refine StoreAt.one HM.out 0 rfl (Nat.le_of_ble_eq_true rfl) rfl (by kernel_rfl) rfl ?_ | refine StoreAt.one HM.out 1 rfl (Nat.le_of_ble_eq_true rfl) rfl (by kernel_rfl) rfl ?_); intro w9 new hnew hm; simp only [List.set_cons_zero, List.set_cons_succ] at hnew; subst hnew; simp only [List.set_cons_zero, List.set_cons_succ] at hm; clear HM; have HM := Lib.hid hm; clear hm; refine hK _ _ ?_; clear hK K; try simp only [Act.put, List.setIfInBounds_toArray, List.set_cons_zero, List.set_cons_succ]) | (with_reducible refine wpl_alloc (ty := 57) (fun K hK => ?_); refine wp_alloc_ma 57 rfl HM.out [.int .i64 0, .int .i64 0, .int .i64 0, .int .i64 0, .int .i64 0, .int .i64 0, .int .i64 0, .int .i64 0, .int .i64 0, .int .i64 0, .int .i64 0, .int .i64 0, .int .i64 0, .int .i64 0, .int .i64 0, .int .i64 0, .int .i64 0, .int .i64 0] (by kernel_rfl) ?_; intro w9 k9 hm; clear HM; have HM := Lib.hid hm; clear hm; refine hK _ _ ?_; clear hK K; try simp only [Act.put, List.setIfInBounds_toArray, List.set_cons_zero, List.set_cons_succ]) | (with_reducible refine wpl_box (ty := 57) (fun K hK => ?_); refine wp_box_ma _ _ rfl HM.out _ rfl ?_; intro w9 kb9 hm; clear HM; have HM := Lib.hid hm; clear hm; refine hK _ _ ?_; clear hK K; try simp only [Act.put, List.setIfInBounds_toArray, List.set_cons_zero, List.set_cons_succ]) | (with_reducible refine wpl_box (ty := 3) (fun K hK => ?_); refine wp_box_m1 _ _ rfl HM.out (.int _ _) rfl rfl ?_; intro w9 kb9 hm; clear HM; have HM := Lib.hid hm; clear hm; refine hK _ _ ?_; clear hK K; try simp only [Act.put, List.setIfInBounds_toArray, List.set_cons_zero, List.set_cons_succ]) | fail)
  clear p
  go_wp2_with (first | (go_at_call 30; refine (HGD.out _).mono ?_; rintro e wx ⟨rfl, hb⟩; have hm := HM.out.below hb; clear HM; have HM := Lib.hid hm; clear hm hb) | (with_reducible refine wpl_load (ty := 57) (fun K hK => ?_); refine wp_load_at _ _ rfl _ _ rfl ?_; (first | refine LoadAt.row (n := 18) HM.out 0 rfl (by kernel_rfl) (by kernel_rfl) (Nat.le_of_ble_eq_true rfl) ?_ | refine LoadAt.row (n := 18) HM.out 1 rfl (by kernel_rfl) (by kernel_rfl) (Nat.le_of_ble_eq_true rfl) ?_); intro r hr; simp only [List.drop_zero, List.drop_succ_cons, List.take_zero, List.take_succ_cons, List.take_nil] at hr; subst hr; refine hK _ _ ?_; clear hK K; try simp only [Act.put, List.setIfInBounds_toArray, List.set_cons_zero, List.set_cons_succ]) | (with_reducible refine wpl_load (fun K hK => ?_); refine wp_load_at _ _ rfl _ _ rfl ?_; (first | refine LoadAt.one HM.out 0 rfl (by kernel_rfl) (Nat.le_of_ble_eq_true rfl) ?_ | refine LoadAt.one HM.out 1 rfl (by kernel_rfl) (Nat.le_of_ble_eq_true rfl) ?_); intro v hv; simp only [List.getElem?_cons_zero, List.getElem?_cons_succ, Option.some.injEq] at hv; subst hv; refine hK _ _ ?_; clear hK K; try simp only [Act.put, List.setIfInBounds_toArray, List.set_cons_zero, List.set_cons_succ]) | (with_reducible refine wpl_store (ty := 57) (fun K hK => ?_); refine wp_store_at _ _ _ rfl _ _ rfl (.agg (List.toArray _)) rfl ?_; (first | refine StoreAt.row HM.out 0 rfl (Nat.le_of_ble_eq_true rfl) (by kernel_rfl) rfl ?_ | refine StoreAt.row HM.out 1 rfl (Nat.le_of_ble_eq_true rfl) (by kernel_rfl) rfl ?_); intro w9 new hnew hm; simp only [setAll, overlay] at hnew; subst hnew; simp only [List.set_cons_zero, List.set_cons_succ] at hm; clear HM; have HM := Lib.hid hm; clear hm; refine hK _ _ ?_; clear hK K; try simp only [Act.put, List.setIfInBounds_toArray, List.set_cons_zero, List.set_cons_succ]) | (with_reducible refine wpl_store (ty := 3) (fun K hK => ?_); refine wp_store_at _ _ _ rfl _ _ rfl (.int _ _) rfl ?_; (first | refine StoreAt.one HM.out 0 rfl (Nat.le_of_ble_eq_true rfl) rfl (by kernel_rfl) rfl ?_ | refine StoreAt.one HM.out 1 rfl (Nat.le_of_ble_eq_true rfl) rfl (by kernel_rfl) rfl ?_); intro w9 new hnew hm; simp only [List.set_cons_zero, List.set_cons_succ] at hnew; subst hnew; simp only [List.set_cons_zero, List.set_cons_succ] at hm; clear HM; have HM := Lib.hid hm; clear hm; refine hK _ _ ?_; clear hK K; try simp only [Act.put, List.setIfInBounds_toArray, List.set_cons_zero, List.set_cons_succ]) | (with_reducible refine wpl_alloc (ty := 57) (fun K hK => ?_); refine wp_alloc_ma 57 rfl HM.out [.int .i64 0, .int .i64 0, .int .i64 0, .int .i64 0, .int .i64 0, .int .i64 0, .int .i64 0, .int .i64 0, .int .i64 0, .int .i64 0, .int .i64 0, .int .i64 0, .int .i64 0, .int .i64 0, .int .i64 0, .int .i64 0, .int .i64 0, .int .i64 0] (by kernel_rfl) ?_; intro w9 k9 hm; clear HM; have HM := Lib.hid hm; clear hm; refine hK _ _ ?_; clear hK K; try simp only [Act.put, List.setIfInBounds_toArray, List.set_cons_zero, List.set_cons_succ]) | (with_reducible refine wpl_box (ty := 57) (fun K hK => ?_); refine wp_box_ma _ _ rfl HM.out _ rfl ?_; intro w9 kb9 hm; clear HM; have HM := Lib.hid hm; clear hm; refine hK _ _ ?_; clear hK K; try simp only [Act.put, List.setIfInBounds_toArray, List.set_cons_zero, List.set_cons_succ]) | (with_reducible refine wpl_box (ty := 3) (fun K hK => ?_); refine wp_box_m1 _ _ rfl HM.out (.int _ _) rfl rfl ?_; intro w9 kb9 hm; clear HM; have HM := Lib.hid hm; clear hm; refine hK _ _ ?_; clear hK K; try simp only [Act.put, List.setIfInBounds_toArray, List.set_cons_zero, List.set_cons_succ]) | fail)
  exact bodyPost_ret (v := _) (results_blk2 rfl _ (HM.out.at_ 1 rfl) _ _ rfl rfl Try.underlying57 rfl (by kernel_rfl)) rfl (DecP.no HD.out rfl (HM.out.to_below (fun _ _ h => h)))
end Go.Proofs.Ytencgokpbfkeiaa
