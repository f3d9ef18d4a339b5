/- The numbers of a good request, by the code and by the document (layer 29). -/
import Derived.Test.YtencgokpbfkeiaaRo
set_option linter.unusedVariables false
set_option linter.unusedSimpArgs false
namespace Go.Proofs.Ytencgokpbfkeiaa
open Go.ChangeShapes Go.WideShapes Go.ChangeAt Go.RowKit
theorem wp_bslice {P : Program} {S : Nat → Prop} {w0 w : World} {l : List Ent} {op : Oper} {a : Act} {K : Act → World → Prop} {Q : Exit → Act → World → Prop} (ty n : Nat) (parts : Array (Nat × Operand)) (elem : TypeId) (vs : List Value) (ho : op.op = .buildSlice ty n parts)
    (hM : Mem S w0 l w) (hrun : ∀ W, (Instr.buildSlice ty n (parts.map fun (i, x) => (i, a.eval x))).run P W = .ok (.slice (some ⟨W.heap.size, 0, none⟩) n n) (W.alloc (.cells vs.toArray elem)))
    (h : ∀ w' k, Mem S w0 (⟨k, elem, vs, true⟩ :: l) w' → K (a.put op.dst (.slice (some ⟨k, 0, none⟩) n n)) w') : op.wp P a w K Q := by
  have := h _ _ (hM.new elem vs)
  unfold Oper.wp execOp
  simp only [ho]
  rw [Sem.run_bind, hrun]
  exact this
theorem wpl_bslice {P : Program} {ops : Array Oper} {rest : List Oper} {d : Option Tmp} {ty n : Nat} {parts : Array (Nat × Operand)} {t : TypeId} {p : String} {af : Array Edge} {a : Act} {w : World} {Q : Exit → Act → World → Prop}
    (h : ∀ K : Act → World → Prop, (∀ a w, wpList P ops Q rest a w → K a w) → Oper.wp P ⟨d, .buildSlice ty n parts, t, p, af, none⟩ a w K Q) : wpList P ops Q (⟨d, .buildSlice ty n parts, t, p, af, none⟩ :: rest) a w := wpList_plain rfl h
theorem mem_fresh {w W : World} {l : List Ent} (h : Mem (fun _ => False) w l W) (i : Nat) {g : Nat} {t : TypeId} {cs : List Value} (he : l[i]? = some ⟨g, t, cs, true⟩) : w.heap.size ≤ g := (h.may _ (List.mem_of_getElem? he) rfl).elim (fun h => h.elim) id
def qnums (q : Qr) : List Int := if q.qk ≤ 2 then [q.b1, q.b2, q.b3, q.b4] else if q.qk ≤ 4 then [q.w1, q.w2, q.w3] else if q.qk = 5 then [q.x] else [q.x, q.h]
def rnums (r : Rq) : List Int := if r.k = 2 then qnums r.q else if r.ck = 1 then [r.pi, r.px, r.py] else if r.ck = 2 then [r.pi] else if r.ck = 3 then [r.si, r.sl, r.sh] else [r.si]
/-- a list of numbers, in memory of its own -/
def NumP (w w' : World) (e : Ending) (l : List Int) : Prop := ∃ g, e = .returned (.slice (some ⟨g, 0, none⟩) l.length l.length) ∧ Blk w' g 3 (iv l).toArray ∧ w.heap.size ≤ g ∧ Below w.heap.size w w'
theorem numP_of {w w' W : World} {L : List Ent} {l : List Int} {e : Ending} {n : Nat} {cs : Array Value} (hM : Mem (fun _ => False) w L W) (he : e = .returned (.slice (some ⟨W.heap.size, 0, none⟩) n n)) (hw : w' = W.alloc (.cells cs 3)) (hn : n = l.length) (hc : cs = (iv l).toArray) : NumP w w' e l := by
  subst hw hn hc he
  exact ⟨_, rfl, (hM.new 3 (iv l)).at_ 0 rfl, hM.only.size, (hM.new 3 (iv l)).to_below (fun _ _ h => h)⟩
set_option maxRecDepth 100000 in
set_option maxHeartbeats 16000000 in
theorem asks_raw (qk b1 b2 b3 b4 w1 w2 w3 x h : Int) (hq : 1 ≤ qk ∧ qk ≤ 7) (w : World) : Calls Try.prog 87 #[.agg #[.int .i64 qk, .int .i64 b1, .int .i64 b2, .int .i64 b3, .int .i64 b4, .int .i64 w1, .int .i64 w2, .int .i64 w3, .int .i64 x, .int .i64 h]] w fun e w' => NumP w w' e (qnums (⟨qk, b1, b2, b3, b4, w1, w2, w3, x, h⟩ : Qr)) := by
  have hw : qk = 1 ∨ qk = 2 ∨ qk = 3 ∨ qk = 4 ∨ qk = 5 ∨ qk = 6 ∨ qk = 7 := by omega
  clear hq
  have HM : Hid (Mem (fun _ => False) w [] w) := Lib.hid (Mem.start _ w)
  rcases hw with rfl | rfl | rfl | rfl | rfl | rfl | rfl
  all_goals
    go_enter Try.func87, Try.ntmps87
    go_wp2_with (first | (with_reducible refine wpl_load (ty := 57) (fun K hK => ?_); refine wp_load_at _ _ rfl _ _ rfl ?_; refine LoadAt.row (n := 18) HM.out 0 rfl (by kernel_rfl) (by kernel_rfl) (Nat.le_of_ble_eq_true rfl) ?_; intro r hr; simp only [List.drop_zero, List.drop_succ_cons, List.take_zero, List.take_succ_cons, List.take_nil] at hr; subst hr; refine hK _ _ ?_; clear hK K; try simp only [Act.put, List.setIfInBounds_toArray, List.set_cons_zero, List.set_cons_succ]) | (with_reducible refine wpl_load (ty := 27) (fun K hK => ?_); refine wp_load_at _ _ rfl _ _ rfl ?_; refine LoadAt.row (n := 10) HM.out 0 rfl (by kernel_rfl) (by kernel_rfl) (Nat.le_of_ble_eq_true rfl) ?_; intro r hr; simp only [List.drop_zero, List.drop_succ_cons, List.take_zero, List.take_succ_cons, List.take_nil] at hr; subst hr; refine hK _ _ ?_; clear hK K; try simp only [Act.put, List.setIfInBounds_toArray, List.set_cons_zero, List.set_cons_succ]) | (with_reducible refine wpl_load (ty := 51) (fun K hK => ?_); refine wp_load_at _ _ rfl _ _ rfl ?_; refine LoadAt.row (n := 3) HM.out 0 rfl (by kernel_rfl) (by kernel_rfl) (Nat.le_of_ble_eq_true rfl) ?_; intro r hr; simp only [List.drop_zero, List.drop_succ_cons, List.take_zero, List.take_succ_cons, List.take_nil] at hr; subst hr; refine hK _ _ ?_; clear hK K; try simp only [Act.put, List.setIfInBounds_toArray, List.set_cons_zero, List.set_cons_succ]) | (with_reducible refine wpl_load (ty := 53) (fun K hK => ?_); refine wp_load_at _ _ rfl _ _ rfl ?_; refine LoadAt.row (n := 3) HM.out 0 rfl (by kernel_rfl) (by kernel_rfl) (Nat.le_of_ble_eq_true rfl) ?_; intro r hr; simp only [List.drop_zero, List.drop_succ_cons, List.take_zero, List.take_succ_cons, List.take_nil] at hr; subst hr; refine hK _ _ ?_; clear hK K; try simp only [Act.put, List.setIfInBounds_toArray, List.set_cons_zero, List.set_cons_succ]) | (with_reducible refine wpl_load (ty := 23) (fun K hK => ?_); refine wp_load_at _ _ rfl _ _ rfl ?_; refine LoadAt.row (n := 4) HM.out 0 rfl (by kernel_rfl) (by kernel_rfl) (Nat.le_of_ble_eq_true rfl) ?_; intro r hr; simp only [List.drop_zero, List.drop_succ_cons, List.take_zero, List.take_succ_cons, List.take_nil] at hr; subst hr; refine hK _ _ ?_; clear hK K; try simp only [Act.put, List.setIfInBounds_toArray, List.set_cons_zero, List.set_cons_succ]) | (with_reducible refine wpl_load (ty := 25) (fun K hK => ?_); refine wp_load_at _ _ rfl _ _ rfl ?_; refine LoadAt.row (n := 3) HM.out 0 rfl (by kernel_rfl) (by kernel_rfl) (Nat.le_of_ble_eq_true rfl) ?_; intro r hr; simp only [List.drop_zero, List.drop_succ_cons, List.take_zero, List.take_succ_cons, List.take_nil] at hr; subst hr; refine hK _ _ ?_; clear hK K; try simp only [Act.put, List.setIfInBounds_toArray, List.set_cons_zero, List.set_cons_succ]) | (with_reducible refine wpl_load (fun K hK => ?_); refine wp_load_at _ _ rfl _ _ rfl ?_; refine LoadAt.one HM.out 0 rfl (by kernel_rfl) (Nat.le_of_ble_eq_true rfl) ?_; intro v hv; simp only [List.getElem?_cons_zero, List.getElem?_cons_succ, Option.some.injEq] at hv; subst hv; refine hK _ _ ?_; clear hK K; try simp only [Act.put, List.setIfInBounds_toArray, List.set_cons_zero, List.set_cons_succ]) | (with_reducible refine wpl_store (ty := 57) (fun K hK => ?_); refine wp_store_at _ _ _ rfl _ _ rfl (.agg (List.toArray _)) rfl ?_; refine StoreAt.row HM.out 0 rfl (Nat.le_of_ble_eq_true rfl) (by kernel_rfl) rfl ?_; intro w9 new hnew hm; simp only [setAll, overlay] at hnew; subst hnew; simp only [List.set_cons_zero, List.set_cons_succ] at hm; clear HM; have HM := Lib.hid hm; clear hm; refine hK _ _ ?_; clear hK K; try simp only [Act.put, List.setIfInBounds_toArray, List.set_cons_zero, List.set_cons_succ]) | (with_reducible refine wpl_store (ty := 27) (fun K hK => ?_); refine wp_store_at _ _ _ rfl _ _ rfl (.agg (List.toArray _)) rfl ?_; refine StoreAt.row HM.out 0 rfl (Nat.le_of_ble_eq_true rfl) (by kernel_rfl) rfl ?_; intro w9 new hnew hm; simp only [setAll, overlay] at hnew; subst hnew; simp only [List.set_cons_zero, List.set_cons_succ] at hm; clear HM; have HM := Lib.hid hm; clear hm; refine hK _ _ ?_; clear hK K; try simp only [Act.put, List.setIfInBounds_toArray, List.set_cons_zero, List.set_cons_succ]) | (with_reducible refine wpl_store (ty := 51) (fun K hK => ?_); refine wp_store_at _ _ _ rfl _ _ rfl (.agg (List.toArray _)) rfl ?_; refine StoreAt.row HM.out 0 rfl (Nat.le_of_ble_eq_true rfl) (by kernel_rfl) rfl ?_; intro w9 new hnew hm; simp only [setAll, overlay] at hnew; subst hnew; simp only [List.set_cons_zero, List.set_cons_succ] at hm; clear HM; have HM := Lib.hid hm; clear hm; refine hK _ _ ?_; clear hK K; try simp only [Act.put, List.setIfInBounds_toArray, List.set_cons_zero, List.set_cons_succ]) | (with_reducible refine wpl_store (ty := 53) (fun K hK => ?_); refine wp_store_at _ _ _ rfl _ _ rfl (.agg (List.toArray _)) rfl ?_; refine StoreAt.row HM.out 0 rfl (Nat.le_of_ble_eq_true rfl) (by kernel_rfl) rfl ?_; intro w9 new hnew hm; simp only [setAll, overlay] at hnew; subst hnew; simp only [List.set_cons_zero, List.set_cons_succ] at hm; clear HM; have HM := Lib.hid hm; clear hm; refine hK _ _ ?_; clear hK K; try simp only [Act.put, List.setIfInBounds_toArray, List.set_cons_zero, List.set_cons_succ]) | (with_reducible refine wpl_store (ty := 23) (fun K hK => ?_); refine wp_store_at _ _ _ rfl _ _ rfl (.agg (List.toArray _)) rfl ?_; refine StoreAt.row HM.out 0 rfl (Nat.le_of_ble_eq_true rfl) (by kernel_rfl) rfl ?_; intro w9 new hnew hm; simp only [setAll, overlay] at hnew; subst hnew; simp only [List.set_cons_zero, List.set_cons_succ] at hm; clear HM; have HM := Lib.hid hm; clear hm; refine hK _ _ ?_; clear hK K; try simp only [Act.put, List.setIfInBounds_toArray, List.set_cons_zero, List.set_cons_succ]) | (with_reducible refine wpl_store (ty := 25) (fun K hK => ?_); refine wp_store_at _ _ _ rfl _ _ rfl (.agg (List.toArray _)) rfl ?_; refine StoreAt.row HM.out 0 rfl (Nat.le_of_ble_eq_true rfl) (by kernel_rfl) rfl ?_; intro w9 new hnew hm; simp only [setAll, overlay] at hnew; subst hnew; simp only [List.set_cons_zero, List.set_cons_succ] at hm; clear HM; have HM := Lib.hid hm; clear hm; refine hK _ _ ?_; clear hK K; try simp only [Act.put, List.setIfInBounds_toArray, List.set_cons_zero, List.set_cons_succ]) | (with_reducible refine wpl_store (ty := 3) (fun K hK => ?_); refine wp_store_at _ _ _ rfl _ _ rfl (.int _ _) rfl ?_; refine StoreAt.one HM.out 0 rfl (Nat.le_of_ble_eq_true rfl) rfl (by kernel_rfl) rfl ?_; intro w9 new hnew hm; simp only [List.set_cons_zero, List.set_cons_succ] at hnew; subst hnew; simp only [List.set_cons_zero, List.set_cons_succ] at hm; clear HM; have HM := Lib.hid hm; clear hm; refine hK _ _ ?_; clear hK K; try simp only [Act.put, List.setIfInBounds_toArray, List.set_cons_zero, List.set_cons_succ]) | (with_reducible refine wpl_alloc (ty := 57) (fun K hK => ?_); refine wp_alloc_ma 57 rfl HM.out [.int .i64 0, .int .i64 0, .int .i64 0, .int .i64 0, .int .i64 0, .int .i64 0, .int .i64 0, .int .i64 0, .int .i64 0, .int .i64 0, .int .i64 0, .int .i64 0, .int .i64 0, .int .i64 0, .int .i64 0, .int .i64 0, .int .i64 0, .int .i64 0] (by kernel_rfl) ?_; intro w9 k9 hm; clear HM; have HM := Lib.hid hm; clear hm; refine hK _ _ ?_; clear hK K; try simp only [Act.put, List.setIfInBounds_toArray, List.set_cons_zero, List.set_cons_succ]) | (with_reducible refine wpl_box (ty := 57) (fun K hK => ?_); refine wp_box_ma _ _ rfl HM.out _ rfl ?_; intro w9 kb9 hm; clear HM; have HM := Lib.hid hm; clear hm; refine hK _ _ ?_; clear hK K; try simp only [Act.put, List.setIfInBounds_toArray, List.set_cons_zero, List.set_cons_succ]) | (with_reducible refine wpl_box (ty := 27) (fun K hK => ?_); refine wp_box_ma _ _ rfl HM.out _ rfl ?_; intro w9 kb9 hm; clear HM; have HM := Lib.hid hm; clear hm; refine hK _ _ ?_; clear hK K; try simp only [Act.put, List.setIfInBounds_toArray, List.set_cons_zero, List.set_cons_succ]) | (with_reducible refine wpl_box (ty := 51) (fun K hK => ?_); refine wp_box_ma _ _ rfl HM.out _ rfl ?_; intro w9 kb9 hm; clear HM; have HM := Lib.hid hm; clear hm; refine hK _ _ ?_; clear hK K; try simp only [Act.put, List.setIfInBounds_toArray, List.set_cons_zero, List.set_cons_succ]) | (with_reducible refine wpl_box (ty := 53) (fun K hK => ?_); refine wp_box_ma _ _ rfl HM.out _ rfl ?_; intro w9 kb9 hm; clear HM; have HM := Lib.hid hm; clear hm; refine hK _ _ ?_; clear hK K; try simp only [Act.put, List.setIfInBounds_toArray, List.set_cons_zero, List.set_cons_succ]) | (with_reducible refine wpl_box (ty := 23) (fun K hK => ?_); refine wp_box_ma _ _ rfl HM.out _ rfl ?_; intro w9 kb9 hm; clear HM; have HM := Lib.hid hm; clear hm; refine hK _ _ ?_; clear hK K; try simp only [Act.put, List.setIfInBounds_toArray, List.set_cons_zero, List.set_cons_succ]) | (with_reducible refine wpl_box (ty := 25) (fun K hK => ?_); refine wp_box_ma _ _ rfl HM.out _ rfl ?_; intro w9 kb9 hm; clear HM; have HM := Lib.hid hm; clear hm; refine hK _ _ ?_; clear hK K; try simp only [Act.put, List.setIfInBounds_toArray, List.set_cons_zero, List.set_cons_succ]) | (with_reducible refine wpl_box (ty := 3) (fun K hK => ?_); refine wp_box_m1 _ _ rfl HM.out (.int _ _) rfl rfl ?_; intro w9 kb9 hm; clear HM; have HM := Lib.hid hm; clear hm; refine hK _ _ ?_; clear hK K; try simp only [Act.put, List.setIfInBounds_toArray, List.set_cons_zero, List.set_cons_succ]) | fail)
    go_ret
    exact numP_of HM.out rfl rfl rfl rfl
theorem asks_any (q : Qr) (hq : 1 ≤ q.qk ∧ q.qk ≤ 7) (w : World) : Calls Try.prog 87 #[q.v] w fun e w' => NumP w w' e (qnums q) :=
  asks_raw q.qk q.b1 q.b2 q.b3 q.b4 q.w1 q.w2 q.w3 q.x q.h hq w
set_option maxRecDepth 100000 in
set_option maxHeartbeats 16000000 in
theorem nums_c (ck pi px py si sl sh qk b1 b2 b3 b4 w1 w2 w3 x h : Int) (hq : 1 ≤ ck ∧ ck ≤ 4) (w : World) : Calls Try.prog 65 #[.agg #[.int .i64 1, .int .i64 ck, .int .i64 pi, .int .i64 px, .int .i64 py, .int .i64 si, .int .i64 sl, .int .i64 sh, .int .i64 qk, .int .i64 b1, .int .i64 b2, .int .i64 b3, .int .i64 b4, .int .i64 w1, .int .i64 w2, .int .i64 w3, .int .i64 x, .int .i64 h]] w fun e w' => NumP w w' e (rnums (⟨1, ck, pi, px, py, si, sl, sh, ⟨qk, b1, b2, b3, b4, w1, w2, w3, x, h⟩⟩ : Rq)) := by
  have hw : ck = 1 ∨ ck = 2 ∨ ck = 3 ∨ ck = 4 := by omega
  have HW := Lib.hid hw
  clear hq hw
  have HM : Hid (Mem (fun _ => False) w [] w) := Lib.hid (Mem.start _ w)
  go_enter Try.func65, Try.ntmps65
  go_upto_region 3 with (first | (with_reducible refine wpl_load (ty := 57) (fun K hK => ?_); refine wp_load_at _ _ rfl _ _ rfl ?_; refine LoadAt.row (n := 18) HM.out 0 rfl (by kernel_rfl) (by kernel_rfl) (Nat.le_of_ble_eq_true rfl) ?_; intro r hr; simp only [List.drop_zero, List.drop_succ_cons, List.take_zero, List.take_succ_cons, List.take_nil] at hr; subst hr; refine hK _ _ ?_; clear hK K; try simp only [Act.put, List.setIfInBounds_toArray, List.set_cons_zero, List.set_cons_succ]) | (with_reducible refine wpl_load (ty := 27) (fun K hK => ?_); refine wp_load_at _ _ rfl _ _ rfl ?_; refine LoadAt.row (n := 10) HM.out 0 rfl (by kernel_rfl) (by kernel_rfl) (Nat.le_of_ble_eq_true rfl) ?_; intro r hr; simp only [List.drop_zero, List.drop_succ_cons, List.take_zero, List.take_succ_cons, List.take_nil] at hr; subst hr; refine hK _ _ ?_; clear hK K; try simp only [Act.put, List.setIfInBounds_toArray, List.set_cons_zero, List.set_cons_succ]) | (with_reducible refine wpl_load (ty := 51) (fun K hK => ?_); refine wp_load_at _ _ rfl _ _ rfl ?_; refine LoadAt.row (n := 3) HM.out 0 rfl (by kernel_rfl) (by kernel_rfl) (Nat.le_of_ble_eq_true rfl) ?_; intro r hr; simp only [List.drop_zero, List.drop_succ_cons, List.take_zero, List.take_succ_cons, List.take_nil] at hr; subst hr; refine hK _ _ ?_; clear hK K; try simp only [Act.put, List.setIfInBounds_toArray, List.set_cons_zero, List.set_cons_succ]) | (with_reducible refine wpl_load (ty := 53) (fun K hK => ?_); refine wp_load_at _ _ rfl _ _ rfl ?_; refine LoadAt.row (n := 3) HM.out 0 rfl (by kernel_rfl) (by kernel_rfl) (Nat.le_of_ble_eq_true rfl) ?_; intro r hr; simp only [List.drop_zero, List.drop_succ_cons, List.take_zero, List.take_succ_cons, List.take_nil] at hr; subst hr; refine hK _ _ ?_; clear hK K; try simp only [Act.put, List.setIfInBounds_toArray, List.set_cons_zero, List.set_cons_succ]) | (with_reducible refine wpl_load (ty := 23) (fun K hK => ?_); refine wp_load_at _ _ rfl _ _ rfl ?_; refine LoadAt.row (n := 4) HM.out 0 rfl (by kernel_rfl) (by kernel_rfl) (Nat.le_of_ble_eq_true rfl) ?_; intro r hr; simp only [List.drop_zero, List.drop_succ_cons, List.take_zero, List.take_succ_cons, List.take_nil] at hr; subst hr; refine hK _ _ ?_; clear hK K; try simp only [Act.put, List.setIfInBounds_toArray, List.set_cons_zero, List.set_cons_succ]) | (with_reducible refine wpl_load (ty := 25) (fun K hK => ?_); refine wp_load_at _ _ rfl _ _ rfl ?_; refine LoadAt.row (n := 3) HM.out 0 rfl (by kernel_rfl) (by kernel_rfl) (Nat.le_of_ble_eq_true rfl) ?_; intro r hr; simp only [List.drop_zero, List.drop_succ_cons, List.take_zero, List.take_succ_cons, List.take_nil] at hr; subst hr; refine hK _ _ ?_; clear hK K; try simp only [Act.put, List.setIfInBounds_toArray, List.set_cons_zero, List.set_cons_succ]) | (with_reducible refine wpl_load (fun K hK => ?_); refine wp_load_at _ _ rfl _ _ rfl ?_; refine LoadAt.one HM.out 0 rfl (by kernel_rfl) (Nat.le_of_ble_eq_true rfl) ?_; intro v hv; simp only [List.getElem?_cons_zero, List.getElem?_cons_succ, Option.some.injEq] at hv; subst hv; refine hK _ _ ?_; clear hK K; try simp only [Act.put, List.setIfInBounds_toArray, List.set_cons_zero, List.set_cons_succ]) | (with_reducible refine wpl_store (ty := 57) (fun K hK => ?_); refine wp_store_at _ _ _ rfl _ _ rfl (.agg (List.toArray _)) rfl ?_; refine StoreAt.row HM.out 0 rfl (Nat.le_of_ble_eq_true rfl) (by kernel_rfl) rfl ?_; intro w9 new hnew hm; simp only [setAll, overlay] at hnew; subst hnew; simp only [List.set_cons_zero, List.set_cons_succ] at hm; clear HM; have HM := Lib.hid hm; clear hm; refine hK _ _ ?_; clear hK K; try simp only [Act.put, List.setIfInBounds_toArray, List.set_cons_zero, List.set_cons_succ]) | (with_reducible refine wpl_store (ty := 27) (fun K hK => ?_); refine wp_store_at _ _ _ rfl _ _ rfl (.agg (List.toArray _)) rfl ?_; refine StoreAt.row HM.out 0 rfl (Nat.le_of_ble_eq_true rfl) (by kernel_rfl) rfl ?_; intro w9 new hnew hm; simp only [setAll, overlay] at hnew; subst hnew; simp only [List.set_cons_zero, List.set_cons_succ] at hm; clear HM; have HM := Lib.hid hm; clear hm; refine hK _ _ ?_; clear hK K; try simp only [Act.put, List.setIfInBounds_toArray, List.set_cons_zero, List.set_cons_succ]) | (with_reducible refine wpl_store (ty := 51) (fun K hK => ?_); refine wp_store_at _ _ _ rfl _ _ rfl (.agg (List.toArray _)) rfl ?_; refine StoreAt.row HM.out 0 rfl (Nat.le_of_ble_eq_true rfl) (by kernel_rfl) rfl ?_; intro w9 new hnew hm; simp only [setAll, overlay] at hnew; subst hnew; simp only [List.set_cons_zero, List.set_cons_succ] at hm; clear HM; have HM := Lib.hid hm; clear hm; refine hK _ _ ?_; clear hK K; try simp only [Act.put, List.setIfInBounds_toArray, List.set_cons_zero, List.set_cons_succ]) | (with_reducible refine wpl_store (ty := 53) (fun K hK => ?_); refine wp_store_at _ _ _ rfl _ _ rfl (.agg (List.toArray _)) rfl ?_; refine StoreAt.row HM.out 0 rfl (Nat.le_of_ble_eq_true rfl) (by kernel_rfl) rfl ?_; intro w9 new hnew hm; simp only [setAll, overlay] at hnew; subst hnew; simp only [List.set_cons_zero, List.set_cons_succ] at hm; clear HM; have HM := Lib.hid hm; clear hm; refine hK _ _ ?_; clear hK K; try simp only [Act.put, List.setIfInBounds_toArray, List.set_cons_zero, List.set_cons_succ]) | (with_reducible refine wpl_store (ty := 23) (fun K hK => ?_); refine wp_store_at _ _ _ rfl _ _ rfl (.agg (List.toArray _)) rfl ?_; refine StoreAt.row HM.out 0 rfl (Nat.le_of_ble_eq_true rfl) (by kernel_rfl) rfl ?_; intro w9 new hnew hm; simp only [setAll, overlay] at hnew; subst hnew; simp only [List.set_cons_zero, List.set_cons_succ] at hm; clear HM; have HM := Lib.hid hm; clear hm; refine hK _ _ ?_; clear hK K; try simp only [Act.put, List.setIfInBounds_toArray, List.set_cons_zero, List.set_cons_succ]) | (with_reducible refine wpl_store (ty := 25) (fun K hK => ?_); refine wp_store_at _ _ _ rfl _ _ rfl (.agg (List.toArray _)) rfl ?_; refine StoreAt.row HM.out 0 rfl (Nat.le_of_ble_eq_true rfl) (by kernel_rfl) rfl ?_; intro w9 new hnew hm; simp only [setAll, overlay] at hnew; subst hnew; simp only [List.set_cons_zero, List.set_cons_succ] at hm; clear HM; have HM := Lib.hid hm; clear hm; refine hK _ _ ?_; clear hK K; try simp only [Act.put, List.setIfInBounds_toArray, List.set_cons_zero, List.set_cons_succ]) | (with_reducible refine wpl_store (ty := 3) (fun K hK => ?_); refine wp_store_at _ _ _ rfl _ _ rfl (.int _ _) rfl ?_; refine StoreAt.one HM.out 0 rfl (Nat.le_of_ble_eq_true rfl) rfl (by kernel_rfl) rfl ?_; intro w9 new hnew hm; simp only [List.set_cons_zero, List.set_cons_succ] at hnew; subst hnew; simp only [List.set_cons_zero, List.set_cons_succ] at hm; clear HM; have HM := Lib.hid hm; clear hm; refine hK _ _ ?_; clear hK K; try simp only [Act.put, List.setIfInBounds_toArray, List.set_cons_zero, List.set_cons_succ]) | (with_reducible refine wpl_alloc (ty := 57) (fun K hK => ?_); refine wp_alloc_ma 57 rfl HM.out [.int .i64 0, .int .i64 0, .int .i64 0, .int .i64 0, .int .i64 0, .int .i64 0, .int .i64 0, .int .i64 0, .int .i64 0, .int .i64 0, .int .i64 0, .int .i64 0, .int .i64 0, .int .i64 0, .int .i64 0, .int .i64 0, .int .i64 0, .int .i64 0] (by kernel_rfl) ?_; intro w9 k9 hm; clear HM; have HM := Lib.hid hm; clear hm; refine hK _ _ ?_; clear hK K; try simp only [Act.put, List.setIfInBounds_toArray, List.set_cons_zero, List.set_cons_succ]) | (with_reducible refine wpl_box (ty := 57) (fun K hK => ?_); refine wp_box_ma _ _ rfl HM.out _ rfl ?_; intro w9 kb9 hm; clear HM; have HM := Lib.hid hm; clear hm; refine hK _ _ ?_; clear hK K; try simp only [Act.put, List.setIfInBounds_toArray, List.set_cons_zero, List.set_cons_succ]) | (with_reducible refine wpl_box (ty := 27) (fun K hK => ?_); refine wp_box_ma _ _ rfl HM.out _ rfl ?_; intro w9 kb9 hm; clear HM; have HM := Lib.hid hm; clear hm; refine hK _ _ ?_; clear hK K; try simp only [Act.put, List.setIfInBounds_toArray, List.set_cons_zero, List.set_cons_succ]) | (with_reducible refine wpl_box (ty := 51) (fun K hK => ?_); refine wp_box_ma _ _ rfl HM.out _ rfl ?_; intro w9 kb9 hm; clear HM; have HM := Lib.hid hm; clear hm; refine hK _ _ ?_; clear hK K; try simp only [Act.put, List.setIfInBounds_toArray, List.set_cons_zero, List.set_cons_succ]) | (with_reducible refine wpl_box (ty := 53) (fun K hK => ?_); refine wp_box_ma _ _ rfl HM.out _ rfl ?_; intro w9 kb9 hm; clear HM; have HM := Lib.hid hm; clear hm; refine hK _ _ ?_; clear hK K; try simp only [Act.put, List.setIfInBounds_toArray, List.set_cons_zero, List.set_cons_succ]) | (with_reducible refine wpl_box (ty := 23) (fun K hK => ?_); refine wp_box_ma _ _ rfl HM.out _ rfl ?_; intro w9 kb9 hm; clear HM; have HM := Lib.hid hm; clear hm; refine hK _ _ ?_; clear hK K; try simp only [Act.put, List.setIfInBounds_toArray, List.set_cons_zero, List.set_cons_succ]) | (with_reducible refine wpl_box (ty := 25) (fun K hK => ?_); refine wp_box_ma _ _ rfl HM.out _ rfl ?_; intro w9 kb9 hm; clear HM; have HM := Lib.hid hm; clear hm; refine hK _ _ ?_; clear hK K; try simp only [Act.put, List.setIfInBounds_toArray, List.set_cons_zero, List.set_cons_succ]) | (with_reducible refine wpl_box (ty := 3) (fun K hK => ?_); refine wp_box_m1 _ _ rfl HM.out (.int _ _) rfl rfl ?_; intro w9 kb9 hm; clear HM; have HM := Lib.hid hm; clear hm; refine hK _ _ ?_; clear hK K; try simp only [Act.put, List.setIfInBounds_toArray, List.set_cons_zero, List.set_cons_succ]) | fail)
  go_cut [3, 4] (fun s3 s4 wx => ∃ g3 g4, s3 = .pointer (some ⟨g3, 0, none⟩) ∧ s4 = .pointer (some ⟨g4, 0, none⟩) ∧ Hid (Mem (fun _ => False) w [⟨g3, 51, [.int .i64 pi, .int .i64 px, .int .i64 py], true⟩, ⟨g4, 53, [.int .i64 si, .int .i64 sl, .int .i64 sh], true⟩, ⟨kb9, 57, [.int .i64 1, .int .i64 ck, .int .i64 pi, .int .i64 px, .int .i64 py, .int .i64 si, .int .i64 sl, .int .i64 sh, .int .i64 qk, .int .i64 b1, .int .i64 b2, .int .i64 b3, .int .i64 b4, .int .i64 w1, .int .i64 w2, .int .i64 w3, .int .i64 x, .int .i64 h], true⟩] wx))
  case first =>
    refine wp_region_noPanic ?_
    refine wp_region_held_drew (S := (fun w' => Blk w' kb9 57 #[.int .i64 1, .int .i64 ck, .int .i64 pi, .int .i64 px, .int .i64 py, .int .i64 si, .int .i64 sl, .int .i64 sh, .int .i64 qk, .int .i64 b1, .int .i64 b2, .int .i64 b3, .int .i64 b4, .int .i64 w1, .int .i64 w2, .int .i64 w3, .int .i64 x, .int .i64 h])) (by kernel_rfl) ?_ (fun hHeld => ?_)
    · exact HM.out.at_ 0 rfl
    have hm := HM.out.drew
    clear HM
    have HM := Lib.hid hm
    clear hm
    refine wpAnyH_take (i := 0) (oi := ⟨_, _, _, _, _, _⟩) (v := ?_) rfl (by kernel_rfl) (by kernel_rfl) (by kernel_rfl) (fun _ _ _ h => h) (Or.inl ⟨by rfl, ?_⟩) (by assumption) ?_
    rotate_left
    · intro w hSw; (try dsimp only at hSw); go_split_ands; go_simp; try with_reducible rfl
    try simp only [Act.put, List.setIfInBounds_toArray, List.set_cons_zero, List.set_cons_succ]
    refine wpAnyH_take (i := 1) (oi := ⟨_, _, _, _, _, _⟩) (v := ?_) rfl (by kernel_rfl) (by kernel_rfl) (by kernel_rfl) (fun _ _ _ h => h) (Or.inl ⟨by rfl, ?_⟩) (by assumption) ?_
    rotate_left
    · intro w hSw; (try dsimp only at hSw); go_split_ands; go_simp; try with_reducible rfl
    try simp only [Act.put, List.setIfInBounds_toArray, List.set_cons_zero, List.set_cons_succ]
    refine wpAnyH_take (i := 2) (oi := ⟨_, _, _, _, _, _⟩) (v := .agg #[.int .i64 pi, .int .i64 px, .int .i64 py]) rfl (by kernel_rfl) (by kernel_rfl) (by kernel_rfl) (fun _ _ _ h => h) (yieldsIf_load_mid (by rfl) 51 (.tmp 12) rfl _ 2 rfl [.int .i64 pi, .int .i64 px, .int .i64 py] _ (fun w h => range_of_blk h 2 3 _ rfl) Try.underlying51 rfl (by kernel_rfl)) (by assumption) ?_
    try simp only [Act.put, List.setIfInBounds_toArray, List.set_cons_zero, List.set_cons_succ]
    refine wpAnyH_take (i := 3) (oi := ⟨_, _, _, _, _, _⟩) (v := ?_) rfl (by kernel_rfl) (by kernel_rfl) (by kernel_rfl) (fun _ _ _ h => h) (Or.inl ⟨by rfl, ?_⟩) (by assumption) ?_
    rotate_left
    · intro w hSw; (try dsimp only at hSw); go_split_ands; go_simp; try with_reducible rfl
    try simp only [Act.put, List.setIfInBounds_toArray, List.set_cons_zero, List.set_cons_succ]
    refine wpAnyH_take (i := 4) (oi := ⟨_, _, _, _, _, _⟩) (v := ?_) rfl (by kernel_rfl) (by kernel_rfl) (by kernel_rfl) (fun _ _ _ h => h) (Or.inl ⟨by rfl, ?_⟩) (by assumption) ?_
    rotate_left
    · intro w hSw; (try dsimp only at hSw); go_split_ands; go_simp; try with_reducible rfl
    try simp only [Act.put, List.setIfInBounds_toArray, List.set_cons_zero, List.set_cons_succ]
    refine wpAnyH_take (i := 5) (oi := ⟨_, _, _, _, _, _⟩) (v := .agg #[.int .i64 si, .int .i64 sl, .int .i64 sh]) rfl (by kernel_rfl) (by kernel_rfl) (by kernel_rfl) (fun _ _ _ h => h) (yieldsIf_load_mid (by rfl) 53 (.tmp 15) rfl _ 5 rfl [.int .i64 si, .int .i64 sl, .int .i64 sh] _ (fun w h => range_of_blk h 5 3 _ rfl) Try.underlying53 rfl (by kernel_rfl)) (by assumption) ?_
    try simp only [Act.put, List.setIfInBounds_toArray, List.set_cons_zero, List.set_cons_succ]
    refine wpAnyH_ready (rs := [6, 7]) (by kernel_rfl) (by simp) ?_
    refine AllReadyH.cons (o := ⟨_, _, _, _, _, _⟩) rfl (fun K hK => ?_) (AllReadyH.cons (o := ⟨_, _, _, _, _, _⟩) rfl (fun K hK => ?_) AllReadyH.nil)
    · refine step_m rfl (wp_alloc_ma 51 rfl HM.out [.int .i64 0, .int .i64 0, .int .i64 0] (by kernel_rfl) ?_)
      intro w9 k9 hm
      clear HM
      have HM := Lib.hid hm
      clear hm
      refine hK.out _ _ ?_ (fun hHeld => ?_)
      · first | exact HM.out.at_ 0 rfl | exact HM.out.at_ 1 rfl | exact HM.out.at_ 2 rfl
      clear hK K
      try simp only [Act.put, List.setIfInBounds_toArray, List.set_cons_zero, List.set_cons_succ]
      refine wpAnyH_ready (rs := [7]) (by kernel_rfl) (by simp) ?_
      refine AllReadyH.cons (o := ⟨_, _, _, _, _, _⟩) rfl (fun K hK => ?_) AllReadyH.nil
      refine step_m rfl (wp_alloc_ma 53 rfl HM.out [.int .i64 0, .int .i64 0, .int .i64 0] (by kernel_rfl) ?_)
      intro w9 k9 hm
      clear HM
      have HM := Lib.hid hm
      clear hm
      refine hK.out _ _ ?_ (fun hHeld => ?_)
      · first | exact HM.out.at_ 0 rfl | exact HM.out.at_ 1 rfl | exact HM.out.at_ 2 rfl
      clear hK K
      try simp only [Act.put, List.setIfInBounds_toArray, List.set_cons_zero, List.set_cons_succ]
      refine wpAnyH_ready (rs := [8]) (by kernel_rfl) (by simp) ?_
      refine AllReadyH.cons (o := ⟨_, _, _, _, _, _⟩) rfl (fun K hK => ?_) AllReadyH.nil
      refine step_m rfl ?_
      refine wp_store_at _ _ _ rfl _ _ rfl (.agg (List.toArray _)) rfl ?_
      (first | refine StoreAt.row HM.out 0 rfl (Nat.le_of_ble_eq_true rfl) (by kernel_rfl) rfl ?_ | refine StoreAt.row HM.out 1 rfl (Nat.le_of_ble_eq_true rfl) (by kernel_rfl) rfl ?_)
      intro w9 new hnew hm
      simp only [setAll, overlay] at hnew
      subst hnew
      simp only [List.set_cons_zero, List.set_cons_succ] at hm
      clear HM
      have HM := Lib.hid hm
      clear hm
      refine hK.out _ _ ?_ (fun hHeld => ?_)
      · first | exact HM.out.at_ 0 rfl | exact HM.out.at_ 1 rfl | exact HM.out.at_ 2 rfl
      clear hK K
      try simp only [Act.put, List.setIfInBounds_toArray, List.set_cons_zero, List.set_cons_succ]
      refine wpAnyH_ready (rs := [9]) (by kernel_rfl) (by simp) ?_
      refine AllReadyH.cons (o := ⟨_, _, _, _, _, _⟩) rfl (fun K hK => ?_) AllReadyH.nil
      refine step_m rfl ?_
      refine wp_store_at _ _ _ rfl _ _ rfl (.agg (List.toArray _)) rfl ?_
      (first | refine StoreAt.row HM.out 0 rfl (Nat.le_of_ble_eq_true rfl) (by kernel_rfl) rfl ?_ | refine StoreAt.row HM.out 1 rfl (Nat.le_of_ble_eq_true rfl) (by kernel_rfl) rfl ?_)
      intro w9 new hnew hm
      simp only [setAll, overlay] at hnew
      subst hnew
      simp only [List.set_cons_zero, List.set_cons_succ] at hm
      clear HM
      have HM := Lib.hid hm
      clear hm
      refine hK.out _ _ ?_ (fun hHeld => ?_)
      · first | exact HM.out.at_ 0 rfl | exact HM.out.at_ 1 rfl | exact HM.out.at_ 2 rfl
      clear hK K
      try simp only [Act.put, List.setIfInBounds_toArray, List.set_cons_zero, List.set_cons_succ]
      refine wpAnyH_done (by kernel_rfl) ?_ _
      refine NoPanic.normal ?_
      go_wp2_with fail
      go_meet
      exact ⟨_, _, rfl, rfl, Lib.hid (by first | exact HM.out | exact HM.out.swap)⟩
    · refine step_m rfl (wp_alloc_ma 53 rfl HM.out [.int .i64 0, .int .i64 0, .int .i64 0] (by kernel_rfl) ?_)
      intro w9 k9 hm
      clear HM
      have HM := Lib.hid hm
      clear hm
      refine hK.out _ _ ?_ (fun hHeld => ?_)
      · first | exact HM.out.at_ 0 rfl | exact HM.out.at_ 1 rfl | exact HM.out.at_ 2 rfl
      clear hK K
      try simp only [Act.put, List.setIfInBounds_toArray, List.set_cons_zero, List.set_cons_succ]
      refine wpAnyH_ready (rs := [6]) (by kernel_rfl) (by simp) ?_
      refine AllReadyH.cons (o := ⟨_, _, _, _, _, _⟩) rfl (fun K hK => ?_) AllReadyH.nil
      refine step_m rfl (wp_alloc_ma 51 rfl HM.out [.int .i64 0, .int .i64 0, .int .i64 0] (by kernel_rfl) ?_)
      intro w9 k9 hm
      clear HM
      have HM := Lib.hid hm
      clear hm
      refine hK.out _ _ ?_ (fun hHeld => ?_)
      · first | exact HM.out.at_ 0 rfl | exact HM.out.at_ 1 rfl | exact HM.out.at_ 2 rfl
      clear hK K
      try simp only [Act.put, List.setIfInBounds_toArray, List.set_cons_zero, List.set_cons_succ]
      refine wpAnyH_ready (rs := [8]) (by kernel_rfl) (by simp) ?_
      refine AllReadyH.cons (o := ⟨_, _, _, _, _, _⟩) rfl (fun K hK => ?_) AllReadyH.nil
      refine step_m rfl ?_
      refine wp_store_at _ _ _ rfl _ _ rfl (.agg (List.toArray _)) rfl ?_
      (first | refine StoreAt.row HM.out 0 rfl (Nat.le_of_ble_eq_true rfl) (by kernel_rfl) rfl ?_ | refine StoreAt.row HM.out 1 rfl (Nat.le_of_ble_eq_true rfl) (by kernel_rfl) rfl ?_)
      intro w9 new hnew hm
      simp only [setAll, overlay] at hnew
      subst hnew
      simp only [List.set_cons_zero, List.set_cons_succ] at hm
      clear HM
      have HM := Lib.hid hm
      clear hm
      refine hK.out _ _ ?_ (fun hHeld => ?_)
      · first | exact HM.out.at_ 0 rfl | exact HM.out.at_ 1 rfl | exact HM.out.at_ 2 rfl
      clear hK K
      try simp only [Act.put, List.setIfInBounds_toArray, List.set_cons_zero, List.set_cons_succ]
      refine wpAnyH_ready (rs := [9]) (by kernel_rfl) (by simp) ?_
      refine AllReadyH.cons (o := ⟨_, _, _, _, _, _⟩) rfl (fun K hK => ?_) AllReadyH.nil
      refine step_m rfl ?_
      refine wp_store_at _ _ _ rfl _ _ rfl (.agg (List.toArray _)) rfl ?_
      (first | refine StoreAt.row HM.out 0 rfl (Nat.le_of_ble_eq_true rfl) (by kernel_rfl) rfl ?_ | refine StoreAt.row HM.out 1 rfl (Nat.le_of_ble_eq_true rfl) (by kernel_rfl) rfl ?_)
      intro w9 new hnew hm
      simp only [setAll, overlay] at hnew
      subst hnew
      simp only [List.set_cons_zero, List.set_cons_succ] at hm
      clear HM
      have HM := Lib.hid hm
      clear hm
      refine hK.out _ _ ?_ (fun hHeld => ?_)
      · first | exact HM.out.at_ 0 rfl | exact HM.out.at_ 1 rfl | exact HM.out.at_ 2 rfl
      clear hK K
      try simp only [Act.put, List.setIfInBounds_toArray, List.set_cons_zero, List.set_cons_succ]
      refine wpAnyH_done (by kernel_rfl) ?_ _
      refine NoPanic.normal ?_
      go_wp2_with fail
      go_meet
      exact ⟨_, _, rfl, rfl, Lib.hid (by first | exact HM.out | exact HM.out.swap)⟩
  clear HM
  obtain ⟨g3, g4, rfl, rfl, HM⟩ := hcut
  rcases HW.out with rfl | rfl | rfl | rfl
  all_goals
    go_wp2_with (first | (with_reducible refine wpl_load (ty := 57) (fun K hK => ?_); refine wp_load_at _ _ rfl _ _ rfl ?_; (first | refine LoadAt.row (n := 18) HM.out 0 rfl (by kernel_rfl) (by kernel_rfl) (Nat.le_of_ble_eq_true rfl) ?_ | refine LoadAt.row (n := 18) HM.out 1 rfl (by kernel_rfl) (by kernel_rfl) (Nat.le_of_ble_eq_true rfl) ?_ | refine LoadAt.row (n := 18) HM.out 2 rfl (by kernel_rfl) (by kernel_rfl) (Nat.le_of_ble_eq_true rfl) ?_); intro r hr; simp only [List.drop_zero, List.drop_succ_cons, List.take_zero, List.take_succ_cons, List.take_nil] at hr; subst hr; refine hK _ _ ?_; clear hK K; try simp only [Act.put, List.setIfInBounds_toArray, List.set_cons_zero, List.set_cons_succ]) | (with_reducible refine wpl_load (ty := 27) (fun K hK => ?_); refine wp_load_at _ _ rfl _ _ rfl ?_; (first | refine LoadAt.row (n := 10) HM.out 0 rfl (by kernel_rfl) (by kernel_rfl) (Nat.le_of_ble_eq_true rfl) ?_ | refine LoadAt.row (n := 10) HM.out 1 rfl (by kernel_rfl) (by kernel_rfl) (Nat.le_of_ble_eq_true rfl) ?_ | refine LoadAt.row (n := 10) HM.out 2 rfl (by kernel_rfl) (by kernel_rfl) (Nat.le_of_ble_eq_true rfl) ?_); intro r hr; simp only [List.drop_zero, List.drop_succ_cons, List.take_zero, List.take_succ_cons, List.take_nil] at hr; subst hr; refine hK _ _ ?_; clear hK K; try simp only [Act.put, List.setIfInBounds_toArray, List.set_cons_zero, List.set_cons_succ]) | (with_reducible refine wpl_load (ty := 51) (fun K hK => ?_); refine wp_load_at _ _ rfl _ _ rfl ?_; (first | refine LoadAt.row (n := 3) HM.out 0 rfl (by kernel_rfl) (by kernel_rfl) (Nat.le_of_ble_eq_true rfl) ?_ | refine LoadAt.row (n := 3) HM.out 1 rfl (by kernel_rfl) (by kernel_rfl) (Nat.le_of_ble_eq_true rfl) ?_ | refine LoadAt.row (n := 3) HM.out 2 rfl (by kernel_rfl) (by kernel_rfl) (Nat.le_of_ble_eq_true rfl) ?_); intro r hr; simp only [List.drop_zero, List.drop_succ_cons, List.take_zero, List.take_succ_cons, List.take_nil] at hr; subst hr; refine hK _ _ ?_; clear hK K; try simp only [Act.put, List.setIfInBounds_toArray, List.set_cons_zero, List.set_cons_succ]) | (with_reducible refine wpl_load (ty := 53) (fun K hK => ?_); refine wp_load_at _ _ rfl _ _ rfl ?_; (first | refine LoadAt.row (n := 3) HM.out 0 rfl (by kernel_rfl) (by kernel_rfl) (Nat.le_of_ble_eq_true rfl) ?_ | refine LoadAt.row (n := 3) HM.out 1 rfl (by kernel_rfl) (by kernel_rfl) (Nat.le_of_ble_eq_true rfl) ?_ | refine LoadAt.row (n := 3) HM.out 2 rfl (by kernel_rfl) (by kernel_rfl) (Nat.le_of_ble_eq_true rfl) ?_); intro r hr; simp only [List.drop_zero, List.drop_succ_cons, List.take_zero, List.take_succ_cons, List.take_nil] at hr; subst hr; refine hK _ _ ?_; clear hK K; try simp only [Act.put, List.setIfInBounds_toArray, List.set_cons_zero, List.set_cons_succ]) | (with_reducible refine wpl_load (ty := 23) (fun K hK => ?_); refine wp_load_at _ _ rfl _ _ rfl ?_; (first | refine LoadAt.row (n := 4) HM.out 0 rfl (by kernel_rfl) (by kernel_rfl) (Nat.le_of_ble_eq_true rfl) ?_ | refine LoadAt.row (n := 4) HM.out 1 rfl (by kernel_rfl) (by kernel_rfl) (Nat.le_of_ble_eq_true rfl) ?_ | refine LoadAt.row (n := 4) HM.out 2 rfl (by kernel_rfl) (by kernel_rfl) (Nat.le_of_ble_eq_true rfl) ?_); intro r hr; simp only [List.drop_zero, List.drop_succ_cons, List.take_zero, List.take_succ_cons, List.take_nil] at hr; subst hr; refine hK _ _ ?_; clear hK K; try simp only [Act.put, List.setIfInBounds_toArray, List.set_cons_zero, List.set_cons_succ]) | (with_reducible refine wpl_load (ty := 25) (fun K hK => ?_); refine wp_load_at _ _ rfl _ _ rfl ?_; (first | refine LoadAt.row (n := 3) HM.out 0 rfl (by kernel_rfl) (by kernel_rfl) (Nat.le_of_ble_eq_true rfl) ?_ | refine LoadAt.row (n := 3) HM.out 1 rfl (by kernel_rfl) (by kernel_rfl) (Nat.le_of_ble_eq_true rfl) ?_ | refine LoadAt.row (n := 3) HM.out 2 rfl (by kernel_rfl) (by kernel_rfl) (Nat.le_of_ble_eq_true rfl) ?_); intro r hr; simp only [List.drop_zero, List.drop_succ_cons, List.take_zero, List.take_succ_cons, List.take_nil] at hr; subst hr; refine hK _ _ ?_; clear hK K; try simp only [Act.put, List.setIfInBounds_toArray, List.set_cons_zero, List.set_cons_succ]) | (with_reducible refine wpl_load (fun K hK => ?_); refine wp_load_at _ _ rfl _ _ rfl ?_; (first | refine LoadAt.one HM.out 0 rfl (by kernel_rfl) (Nat.le_of_ble_eq_true rfl) ?_ | refine LoadAt.one HM.out 1 rfl (by kernel_rfl) (Nat.le_of_ble_eq_true rfl) ?_ | refine LoadAt.one HM.out 2 rfl (by kernel_rfl) (Nat.le_of_ble_eq_true rfl) ?_); intro v hv; simp only [List.getElem?_cons_zero, List.getElem?_cons_succ, Option.some.injEq] at hv; subst hv; refine hK _ _ ?_; clear hK K; try simp only [Act.put, List.setIfInBounds_toArray, List.set_cons_zero, List.set_cons_succ]) | (with_reducible refine wpl_store (ty := 57) (fun K hK => ?_); refine wp_store_at _ _ _ rfl _ _ rfl (.agg (List.toArray _)) rfl ?_; (first | refine StoreAt.row HM.out 0 rfl (Nat.le_of_ble_eq_true rfl) (by kernel_rfl) rfl ?_ | refine StoreAt.row HM.out 1 rfl (Nat.le_of_ble_eq_true rfl) (by kernel_rfl) rfl ?_ | refine StoreAt.row HM.out 2 rfl (Nat.le_of_ble_eq_true rfl) (by kernel_rfl) rfl ?_); intro w9 new hnew hm; simp only [setAll, overlay] at hnew; subst hnew; simp only [List.set_cons_zero, List.set_cons_succ] at hm; clear HM; have HM := Lib.hid hm; clear hm; refine hK _ _ ?_; clear hK K; try simp only [Act.put, List.setIfInBounds_toArray, List.set_cons_zero, List.set_cons_succ]) | (with_reducible refine wpl_store (ty := 27) (fun K hK => ?_); refine wp_store_at _ _ _ rfl _ _ rfl (.agg (List.toArray _)) rfl ?_; (first | refine StoreAt.row HM.out 0 rfl (Nat.le_of_ble_eq_true rfl) (by kernel_rfl) rfl ?_ | refine StoreAt.row HM.out 1 rfl (Nat.le_of_ble_eq_true rfl) (by kernel_rfl) rfl ?_ | refine StoreAt.row HM.out 2 rfl (Nat.le_of_ble_eq_true rfl) (by kernel_rfl) rfl ?_); intro w9 new hnew hm; simp only [setAll, overlay] at hnew; subst hnew; simp only [List.set_cons_zero, List.set_cons_succ] at hm; clear HM; have HM := Lib.hid hm; clear hm; refine hK _ _ ?_; clear hK K; try simp only [Act.put, List.setIfInBounds_toArray, List.set_cons_zero, List.set_cons_succ]) | (with_reducible refine wpl_store (ty := 51) (fun K hK => ?_); refine wp_store_at _ _ _ rfl _ _ rfl (.agg (List.toArray _)) rfl ?_; (first | refine StoreAt.row HM.out 0 rfl (Nat.le_of_ble_eq_true rfl) (by kernel_rfl) rfl ?_ | refine StoreAt.row HM.out 1 rfl (Nat.le_of_ble_eq_true rfl) (by kernel_rfl) rfl ?_ | refine StoreAt.row HM.out 2 rfl (Nat.le_of_ble_eq_true rfl) (by kernel_rfl) rfl ?_); intro w9 new hnew hm; simp only [setAll, overlay] at hnew; subst hnew; simp only [List.set_cons_zero, List.set_cons_succ] at hm; clear HM; have HM := Lib.hid hm; clear hm; refine hK _ _ ?_; clear hK K; try simp only [Act.put, List.setIfInBounds_toArray, List.set_cons_zero, List.set_cons_succ]) | (with_reducible refine wpl_store (ty := 53) (fun K hK => ?_); refine wp_store_at _ _ _ rfl _ _ rfl (.agg (List.toArray _)) rfl ?_; (first | refine StoreAt.row HM.out 0 rfl (Nat.le_of_ble_eq_true rfl) (by kernel_rfl) rfl ?_ | refine StoreAt.row HM.out 1 rfl (Nat.le_of_ble_eq_true rfl) (by kernel_rfl) rfl ?_ | refine StoreAt.row HM.out 2 rfl (Nat.le_of_ble_eq_true rfl) (by kernel_rfl) rfl ?_); intro w9 new hnew hm; simp only [setAll, overlay] at hnew; subst hnew; simp only [List.set_cons_zero, List.set_cons_succ] at hm; clear HM; have HM := Lib.hid hm; clear hm; refine hK _ _ ?_; clear hK K; try simp only [Act.put, List.setIfInBounds_toArray, List.set_cons_zero, List.set_cons_succ]) | (with_reducible refine wpl_store (ty := 23) (fun K hK => ?_); refine wp_store_at _ _ _ rfl _ _ rfl (.agg (List.toArray _)) rfl ?_; (first | refine StoreAt.row HM.out 0 rfl (Nat.le_of_ble_eq_true rfl) (by kernel_rfl) rfl ?_ | refine StoreAt.row HM.out 1 rfl (Nat.le_of_ble_eq_true rfl) (by kernel_rfl) rfl ?_ | refine StoreAt.row HM.out 2 rfl (Nat.le_of_ble_eq_true rfl) (by kernel_rfl) rfl ?_); intro w9 new hnew hm; simp only [setAll, overlay] at hnew; subst hnew; simp only [List.set_cons_zero, List.set_cons_succ] at hm; clear HM; have HM := Lib.hid hm; clear hm; refine hK _ _ ?_; clear hK K; try simp only [Act.put, List.setIfInBounds_toArray, List.set_cons_zero, List.set_cons_succ]) | (with_reducible refine wpl_store (ty := 25) (fun K hK => ?_); refine wp_store_at _ _ _ rfl _ _ rfl (.agg (List.toArray _)) rfl ?_; (first | refine StoreAt.row HM.out 0 rfl (Nat.le_of_ble_eq_true rfl) (by kernel_rfl) rfl ?_ | refine StoreAt.row HM.out 1 rfl (Nat.le_of_ble_eq_true rfl) (by kernel_rfl) rfl ?_ | refine StoreAt.row HM.out 2 rfl (Nat.le_of_ble_eq_true rfl) (by kernel_rfl) rfl ?_); intro w9 new hnew hm; simp only [setAll, overlay] at hnew; subst hnew; simp only [List.set_cons_zero, List.set_cons_succ] at hm; clear HM; have HM := Lib.hid hm; clear hm; refine hK _ _ ?_; clear hK K; try simp only [Act.put, List.setIfInBounds_toArray, List.set_cons_zero, List.set_cons_succ]) | (with_reducible refine wpl_store (ty := 3) (fun K hK => ?_); refine wp_store_at _ _ _ rfl _ _ rfl (.int _ _) rfl ?_; (first | refine StoreAt.one HM.out 0 rfl (Nat.le_of_ble_eq_true rfl) rfl (by kernel_rfl) rfl ?_ | refine StoreAt.one HM.out 1 rfl (Nat.le_of_ble_eq_true rfl) rfl (by kernel_rfl) rfl ?_ | refine StoreAt.one HM.out 2 rfl (Nat.le_of_ble_eq_true rfl) rfl (by kernel_rfl) rfl ?_); intro w9 new hnew hm; simp only [List.set_cons_zero, List.set_cons_succ] at hnew; subst hnew; simp only [List.set_cons_zero, List.set_cons_succ] at hm; clear HM; have HM := Lib.hid hm; clear hm; refine hK _ _ ?_; clear hK K; try simp only [Act.put, List.setIfInBounds_toArray, List.set_cons_zero, List.set_cons_succ]) | (with_reducible refine wpl_alloc (ty := 57) (fun K hK => ?_); refine wp_alloc_ma 57 rfl HM.out [.int .i64 0, .int .i64 0, .int .i64 0, .int .i64 0, .int .i64 0, .int .i64 0, .int .i64 0, .int .i64 0, .int .i64 0, .int .i64 0, .int .i64 0, .int .i64 0, .int .i64 0, .int .i64 0, .int .i64 0, .int .i64 0, .int .i64 0, .int .i64 0] (by kernel_rfl) ?_; intro w9 k9 hm; clear HM; have HM := Lib.hid hm; clear hm; refine hK _ _ ?_; clear hK K; try simp only [Act.put, List.setIfInBounds_toArray, List.set_cons_zero, List.set_cons_succ]) | (with_reducible refine wpl_box (ty := 57) (fun K hK => ?_); refine wp_box_ma _ _ rfl HM.out _ rfl ?_; intro w9 kb9 hm; clear HM; have HM := Lib.hid hm; clear hm; refine hK _ _ ?_; clear hK K; try simp only [Act.put, List.setIfInBounds_toArray, List.set_cons_zero, List.set_cons_succ]) | (with_reducible refine wpl_box (ty := 27) (fun K hK => ?_); refine wp_box_ma _ _ rfl HM.out _ rfl ?_; intro w9 kb9 hm; clear HM; have HM := Lib.hid hm; clear hm; refine hK _ _ ?_; clear hK K; try simp only [Act.put, List.setIfInBounds_toArray, List.set_cons_zero, List.set_cons_succ]) | (with_reducible refine wpl_box (ty := 51) (fun K hK => ?_); refine wp_box_ma _ _ rfl HM.out _ rfl ?_; intro w9 kb9 hm; clear HM; have HM := Lib.hid hm; clear hm; refine hK _ _ ?_; clear hK K; try simp only [Act.put, List.setIfInBounds_toArray, List.set_cons_zero, List.set_cons_succ]) | (with_reducible refine wpl_box (ty := 53) (fun K hK => ?_); refine wp_box_ma _ _ rfl HM.out _ rfl ?_; intro w9 kb9 hm; clear HM; have HM := Lib.hid hm; clear hm; refine hK _ _ ?_; clear hK K; try simp only [Act.put, List.setIfInBounds_toArray, List.set_cons_zero, List.set_cons_succ]) | (with_reducible refine wpl_box (ty := 23) (fun K hK => ?_); refine wp_box_ma _ _ rfl HM.out _ rfl ?_; intro w9 kb9 hm; clear HM; have HM := Lib.hid hm; clear hm; refine hK _ _ ?_; clear hK K; try simp only [Act.put, List.setIfInBounds_toArray, List.set_cons_zero, List.set_cons_succ]) | (with_reducible refine wpl_box (ty := 25) (fun K hK => ?_); refine wp_box_ma _ _ rfl HM.out _ rfl ?_; intro w9 kb9 hm; clear HM; have HM := Lib.hid hm; clear hm; refine hK _ _ ?_; clear hK K; try simp only [Act.put, List.setIfInBounds_toArray, List.set_cons_zero, List.set_cons_succ]) | (with_reducible refine wpl_box (ty := 3) (fun K hK => ?_); refine wp_box_m1 _ _ rfl HM.out (.int _ _) rfl rfl ?_; intro w9 kb9 hm; clear HM; have HM := Lib.hid hm; clear hm; refine hK _ _ ?_; clear hK K; try simp only [Act.put, List.setIfInBounds_toArray, List.set_cons_zero, List.set_cons_succ]) | fail)
    go_ret
    exact numP_of HM.out rfl rfl rfl rfl
set_option maxRecDepth 100000 in
set_option maxHeartbeats 16000000 in
theorem nums_q (ck pi px py si sl sh qk b1 b2 b3 b4 w1 w2 w3 x h : Int) (hq : 1 ≤ qk ∧ qk ≤ 7) (w : World) : Calls Try.prog 65 #[.agg #[.int .i64 2, .int .i64 ck, .int .i64 pi, .int .i64 px, .int .i64 py, .int .i64 si, .int .i64 sl, .int .i64 sh, .int .i64 qk, .int .i64 b1, .int .i64 b2, .int .i64 b3, .int .i64 b4, .int .i64 w1, .int .i64 w2, .int .i64 w3, .int .i64 x, .int .i64 h]] w fun e w' => NumP w w' e (rnums (⟨2, ck, pi, px, py, si, sl, sh, ⟨qk, b1, b2, b3, b4, w1, w2, w3, x, h⟩⟩ : Rq)) := by
  have HQ : Hid (∀ W, Calls Try.prog 87 #[.agg #[.int .i64 qk, .int .i64 b1, .int .i64 b2, .int .i64 b3, .int .i64 b4, .int .i64 w1, .int .i64 w2, .int .i64 w3, .int .i64 x, .int .i64 h]] W fun e w' => NumP W w' e (qnums (⟨qk, b1, b2, b3, b4, w1, w2, w3, x, h⟩ : Qr))) := Lib.hid (fun W => asks_raw qk b1 b2 b3 b4 w1 w2 w3 x h hq W)
  clear hq
  have HM : Hid (Mem (fun _ => False) w [] w) := Lib.hid (Mem.start _ w)
  go_enter Try.func65, Try.ntmps65
  go_wp2_with (first | (with_reducible refine wpl_load (ty := 57) (fun K hK => ?_); refine wp_load_at _ _ rfl _ _ rfl ?_; refine LoadAt.row (n := 18) HM.out 0 rfl (by kernel_rfl) (by kernel_rfl) (Nat.le_of_ble_eq_true rfl) ?_; intro r hr; simp only [List.drop_zero, List.drop_succ_cons, List.take_zero, List.take_succ_cons, List.take_nil] at hr; subst hr; refine hK _ _ ?_; clear hK K; try simp only [Act.put, List.setIfInBounds_toArray, List.set_cons_zero, List.set_cons_succ]) | (with_reducible refine wpl_load (ty := 27) (fun K hK => ?_); refine wp_load_at _ _ rfl _ _ rfl ?_; refine LoadAt.row (n := 10) HM.out 0 rfl (by kernel_rfl) (by kernel_rfl) (Nat.le_of_ble_eq_true rfl) ?_; intro r hr; simp only [List.drop_zero, List.drop_succ_cons, List.take_zero, List.take_succ_cons, List.take_nil] at hr; subst hr; refine hK _ _ ?_; clear hK K; try simp only [Act.put, List.setIfInBounds_toArray, List.set_cons_zero, List.set_cons_succ]) | (with_reducible refine wpl_load (ty := 51) (fun K hK => ?_); refine wp_load_at _ _ rfl _ _ rfl ?_; refine LoadAt.row (n := 3) HM.out 0 rfl (by kernel_rfl) (by kernel_rfl) (Nat.le_of_ble_eq_true rfl) ?_; intro r hr; simp only [List.drop_zero, List.drop_succ_cons, List.take_zero, List.take_succ_cons, List.take_nil] at hr; subst hr; refine hK _ _ ?_; clear hK K; try simp only [Act.put, List.setIfInBounds_toArray, List.set_cons_zero, List.set_cons_succ]) | (with_reducible refine wpl_load (ty := 53) (fun K hK => ?_); refine wp_load_at _ _ rfl _ _ rfl ?_; refine LoadAt.row (n := 3) HM.out 0 rfl (by kernel_rfl) (by kernel_rfl) (Nat.le_of_ble_eq_true rfl) ?_; intro r hr; simp only [List.drop_zero, List.drop_succ_cons, List.take_zero, List.take_succ_cons, List.take_nil] at hr; subst hr; refine hK _ _ ?_; clear hK K; try simp only [Act.put, List.setIfInBounds_toArray, List.set_cons_zero, List.set_cons_succ]) | (with_reducible refine wpl_load (ty := 23) (fun K hK => ?_); refine wp_load_at _ _ rfl _ _ rfl ?_; refine LoadAt.row (n := 4) HM.out 0 rfl (by kernel_rfl) (by kernel_rfl) (Nat.le_of_ble_eq_true rfl) ?_; intro r hr; simp only [List.drop_zero, List.drop_succ_cons, List.take_zero, List.take_succ_cons, List.take_nil] at hr; subst hr; refine hK _ _ ?_; clear hK K; try simp only [Act.put, List.setIfInBounds_toArray, List.set_cons_zero, List.set_cons_succ]) | (with_reducible refine wpl_load (ty := 25) (fun K hK => ?_); refine wp_load_at _ _ rfl _ _ rfl ?_; refine LoadAt.row (n := 3) HM.out 0 rfl (by kernel_rfl) (by kernel_rfl) (Nat.le_of_ble_eq_true rfl) ?_; intro r hr; simp only [List.drop_zero, List.drop_succ_cons, List.take_zero, List.take_succ_cons, List.take_nil] at hr; subst hr; refine hK _ _ ?_; clear hK K; try simp only [Act.put, List.setIfInBounds_toArray, List.set_cons_zero, List.set_cons_succ]) | (with_reducible refine wpl_load (fun K hK => ?_); refine wp_load_at _ _ rfl _ _ rfl ?_; refine LoadAt.one HM.out 0 rfl (by kernel_rfl) (Nat.le_of_ble_eq_true rfl) ?_; intro v hv; simp only [List.getElem?_cons_zero, List.getElem?_cons_succ, Option.some.injEq] at hv; subst hv; refine hK _ _ ?_; clear hK K; try simp only [Act.put, List.setIfInBounds_toArray, List.set_cons_zero, List.set_cons_succ]) | (with_reducible refine wpl_store (ty := 57) (fun K hK => ?_); refine wp_store_at _ _ _ rfl _ _ rfl (.agg (List.toArray _)) rfl ?_; refine StoreAt.row HM.out 0 rfl (Nat.le_of_ble_eq_true rfl) (by kernel_rfl) rfl ?_; intro w9 new hnew hm; simp only [setAll, overlay] at hnew; subst hnew; simp only [List.set_cons_zero, List.set_cons_succ] at hm; clear HM; have HM := Lib.hid hm; clear hm; refine hK _ _ ?_; clear hK K; try simp only [Act.put, List.setIfInBounds_toArray, List.set_cons_zero, List.set_cons_succ]) | (with_reducible refine wpl_store (ty := 27) (fun K hK => ?_); refine wp_store_at _ _ _ rfl _ _ rfl (.agg (List.toArray _)) rfl ?_; refine StoreAt.row HM.out 0 rfl (Nat.le_of_ble_eq_true rfl) (by kernel_rfl) rfl ?_; intro w9 new hnew hm; simp only [setAll, overlay] at hnew; subst hnew; simp only [List.set_cons_zero, List.set_cons_succ] at hm; clear HM; have HM := Lib.hid hm; clear hm; refine hK _ _ ?_; clear hK K; try simp only [Act.put, List.setIfInBounds_toArray, List.set_cons_zero, List.set_cons_succ]) | (with_reducible refine wpl_store (ty := 51) (fun K hK => ?_); refine wp_store_at _ _ _ rfl _ _ rfl (.agg (List.toArray _)) rfl ?_; refine StoreAt.row HM.out 0 rfl (Nat.le_of_ble_eq_true rfl) (by kernel_rfl) rfl ?_; intro w9 new hnew hm; simp only [setAll, overlay] at hnew; subst hnew; simp only [List.set_cons_zero, List.set_cons_succ] at hm; clear HM; have HM := Lib.hid hm; clear hm; refine hK _ _ ?_; clear hK K; try simp only [Act.put, List.setIfInBounds_toArray, List.set_cons_zero, List.set_cons_succ]) | (with_reducible refine wpl_store (ty := 53) (fun K hK => ?_); refine wp_store_at _ _ _ rfl _ _ rfl (.agg (List.toArray _)) rfl ?_; refine StoreAt.row HM.out 0 rfl (Nat.le_of_ble_eq_true rfl) (by kernel_rfl) rfl ?_; intro w9 new hnew hm; simp only [setAll, overlay] at hnew; subst hnew; simp only [List.set_cons_zero, List.set_cons_succ] at hm; clear HM; have HM := Lib.hid hm; clear hm; refine hK _ _ ?_; clear hK K; try simp only [Act.put, List.setIfInBounds_toArray, List.set_cons_zero, List.set_cons_succ]) | (with_reducible refine wpl_store (ty := 23) (fun K hK => ?_); refine wp_store_at _ _ _ rfl _ _ rfl (.agg (List.toArray _)) rfl ?_; refine StoreAt.row HM.out 0 rfl (Nat.le_of_ble_eq_true rfl) (by kernel_rfl) rfl ?_; intro w9 new hnew hm; simp only [setAll, overlay] at hnew; subst hnew; simp only [List.set_cons_zero, List.set_cons_succ] at hm; clear HM; have HM := Lib.hid hm; clear hm; refine hK _ _ ?_; clear hK K; try simp only [Act.put, List.setIfInBounds_toArray, List.set_cons_zero, List.set_cons_succ]) | (with_reducible refine wpl_store (ty := 25) (fun K hK => ?_); refine wp_store_at _ _ _ rfl _ _ rfl (.agg (List.toArray _)) rfl ?_; refine StoreAt.row HM.out 0 rfl (Nat.le_of_ble_eq_true rfl) (by kernel_rfl) rfl ?_; intro w9 new hnew hm; simp only [setAll, overlay] at hnew; subst hnew; simp only [List.set_cons_zero, List.set_cons_succ] at hm; clear HM; have HM := Lib.hid hm; clear hm; refine hK _ _ ?_; clear hK K; try simp only [Act.put, List.setIfInBounds_toArray, List.set_cons_zero, List.set_cons_succ]) | (with_reducible refine wpl_store (ty := 3) (fun K hK => ?_); refine wp_store_at _ _ _ rfl _ _ rfl (.int _ _) rfl ?_; refine StoreAt.one HM.out 0 rfl (Nat.le_of_ble_eq_true rfl) rfl (by kernel_rfl) rfl ?_; intro w9 new hnew hm; simp only [List.set_cons_zero, List.set_cons_succ] at hnew; subst hnew; simp only [List.set_cons_zero, List.set_cons_succ] at hm; clear HM; have HM := Lib.hid hm; clear hm; refine hK _ _ ?_; clear hK K; try simp only [Act.put, List.setIfInBounds_toArray, List.set_cons_zero, List.set_cons_succ]) | (with_reducible refine wpl_alloc (ty := 57) (fun K hK => ?_); refine wp_alloc_ma 57 rfl HM.out [.int .i64 0, .int .i64 0, .int .i64 0, .int .i64 0, .int .i64 0, .int .i64 0, .int .i64 0, .int .i64 0, .int .i64 0, .int .i64 0, .int .i64 0, .int .i64 0, .int .i64 0, .int .i64 0, .int .i64 0, .int .i64 0, .int .i64 0, .int .i64 0] (by kernel_rfl) ?_; intro w9 k9 hm; clear HM; have HM := Lib.hid hm; clear hm; refine hK _ _ ?_; clear hK K; try simp only [Act.put, List.setIfInBounds_toArray, List.set_cons_zero, List.set_cons_succ]) | (with_reducible refine wpl_box (ty := 57) (fun K hK => ?_); refine wp_box_ma _ _ rfl HM.out _ rfl ?_; intro w9 kb9 hm; clear HM; have HM := Lib.hid hm; clear hm; refine hK _ _ ?_; clear hK K; try simp only [Act.put, List.setIfInBounds_toArray, List.set_cons_zero, List.set_cons_succ]) | (with_reducible refine wpl_box (ty := 27) (fun K hK => ?_); refine wp_box_ma _ _ rfl HM.out _ rfl ?_; intro w9 kb9 hm; clear HM; have HM := Lib.hid hm; clear hm; refine hK _ _ ?_; clear hK K; try simp only [Act.put, List.setIfInBounds_toArray, List.set_cons_zero, List.set_cons_succ]) | (with_reducible refine wpl_box (ty := 51) (fun K hK => ?_); refine wp_box_ma _ _ rfl HM.out _ rfl ?_; intro w9 kb9 hm; clear HM; have HM := Lib.hid hm; clear hm; refine hK _ _ ?_; clear hK K; try simp only [Act.put, List.setIfInBounds_toArray, List.set_cons_zero, List.set_cons_succ]) | (with_reducible refine wpl_box (ty := 53) (fun K hK => ?_); refine wp_box_ma _ _ rfl HM.out _ rfl ?_; intro w9 kb9 hm; clear HM; have HM := Lib.hid hm; clear hm; refine hK _ _ ?_; clear hK K; try simp only [Act.put, List.setIfInBounds_toArray, List.set_cons_zero, List.set_cons_succ]) | (with_reducible refine wpl_box (ty := 23) (fun K hK => ?_); refine wp_box_ma _ _ rfl HM.out _ rfl ?_; intro w9 kb9 hm; clear HM; have HM := Lib.hid hm; clear hm; refine hK _ _ ?_; clear hK K; try simp only [Act.put, List.setIfInBounds_toArray, List.set_cons_zero, List.set_cons_succ]) | (with_reducible refine wpl_box (ty := 25) (fun K hK => ?_); refine wp_box_ma _ _ rfl HM.out _ rfl ?_; intro w9 kb9 hm; clear HM; have HM := Lib.hid hm; clear hm; refine hK _ _ ?_; clear hK K; try simp only [Act.put, List.setIfInBounds_toArray, List.set_cons_zero, List.set_cons_succ]) | (with_reducible refine wpl_box (ty := 3) (fun K hK => ?_); refine wp_box_m1 _ _ rfl HM.out (.int _ _) rfl rfl ?_; intro w9 kb9 hm; clear HM; have HM := Lib.hid hm; clear hm; refine hK _ _ ?_; clear hK K; try simp only [Act.put, List.setIfInBounds_toArray, List.set_cons_zero, List.set_cons_succ]) | fail)
  refine (HQ.out _).mono ?_
  rintro e wz ⟨g, rfl, hg, hgs, hb⟩
  have HG := Lib.hid hg
  have HB := Lib.hid ((HM.out.below hb).to_below (fun _ _ h => h))
  have HS := Lib.hid (Nat.le_trans HM.out.only.size hgs)
  clear hg hgs hb
  generalize hn : qnums (⟨qk, b1, b2, b3, b4, w1, w2, w3, x, h⟩ : Qr) = L at *
  have HN := Lib.hid hn
  clear hn
  go_wp2_with fail
  go_ret
  have e : rnums (⟨2, ck, pi, px, py, si, sl, sh, ⟨qk, b1, b2, b3, b4, w1, w2, w3, x, h⟩⟩ : Rq) = L := by rw [← HN.out]; rfl
  rw [e]
  exact ⟨g, rfl, HG.out, HS.out, HB.out⟩
theorem nums_any (r : Rq) (hg : r.good = true) (w : World) : Calls Try.prog 65 #[r.v] w fun e w' => NumP w w' e (rnums r) := by
  obtain ⟨k, ck, pi, px, py, si, sl, sh, ⟨qk, b1, b2, b3, b4, w1, w2, w3, x, h⟩⟩ := r
  simp only [Rq.good, decide_eq_true_eq] at hg
  rcases hg with ⟨rfl, h1, h2⟩ | ⟨rfl, h1, h2⟩
  · exact nums_c ck pi px py si sl sh qk b1 b2 b3 b4 w1 w2 w3 x h ⟨h1, h2⟩ w
  · exact nums_q ck pi px py si sl sh qk b1 b2 b3 b4 w1 w2 w3 x h ⟨h1, h2⟩ w
set_option maxRecDepth 100000 in
set_option maxHeartbeats 16000000 in
theorem rnums_raw (k ck pi px py si sl sh qk b1 b2 b3 b4 w1 w2 w3 x h : Int) (hg : Rq.good (⟨k, ck, pi, px, py, si, sl, sh, ⟨qk, b1, b2, b3, b4, w1, w2, w3, x, h⟩⟩ : Rq) = true) (w : World) : Calls Try.prog 68 #[.agg #[.int .i64 k, .int .i64 ck, .int .i64 pi, .int .i64 px, .int .i64 py, .int .i64 si, .int .i64 sl, .int .i64 sh, .int .i64 qk, .int .i64 b1, .int .i64 b2, .int .i64 b3, .int .i64 b4, .int .i64 w1, .int .i64 w2, .int .i64 w3, .int .i64 x, .int .i64 h]] w fun e w' => NumP w w' e (rnums (⟨k, ck, pi, px, py, si, sl, sh, ⟨qk, b1, b2, b3, b4, w1, w2, w3, x, h⟩⟩ : Rq)) := by
  have HW := Lib.hid (only_ways _ hg)
  clear hg
  have HM : Hid (Mem (fun _ => False) w [] w) := Lib.hid (Mem.start _ w)
  go_enter Try.func68, Try.ntmps68
  go_upto_region 1 with (first | (with_reducible refine wpl_load (ty := 57) (fun K hK => ?_); refine wp_load_at _ _ rfl _ _ rfl ?_; refine LoadAt.row (n := 18) HM.out 0 rfl (by kernel_rfl) (by kernel_rfl) (Nat.le_of_ble_eq_true rfl) ?_; intro r hr; simp only [List.drop_zero, List.drop_succ_cons, List.take_zero, List.take_succ_cons, List.take_nil] at hr; subst hr; refine hK _ _ ?_; clear hK K; try simp only [Act.put, List.setIfInBounds_toArray, List.set_cons_zero, List.set_cons_succ]) | (with_reducible refine wpl_load (ty := 27) (fun K hK => ?_); refine wp_load_at _ _ rfl _ _ rfl ?_; refine LoadAt.row (n := 10) HM.out 0 rfl (by kernel_rfl) (by kernel_rfl) (Nat.le_of_ble_eq_true rfl) ?_; intro r hr; simp only [List.drop_zero, List.drop_succ_cons, List.take_zero, List.take_succ_cons, List.take_nil] at hr; subst hr; refine hK _ _ ?_; clear hK K; try simp only [Act.put, List.setIfInBounds_toArray, List.set_cons_zero, List.set_cons_succ]) | (with_reducible refine wpl_load (ty := 51) (fun K hK => ?_); refine wp_load_at _ _ rfl _ _ rfl ?_; refine LoadAt.row (n := 3) HM.out 0 rfl (by kernel_rfl) (by kernel_rfl) (Nat.le_of_ble_eq_true rfl) ?_; intro r hr; simp only [List.drop_zero, List.drop_succ_cons, List.take_zero, List.take_succ_cons, List.take_nil] at hr; subst hr; refine hK _ _ ?_; clear hK K; try simp only [Act.put, List.setIfInBounds_toArray, List.set_cons_zero, List.set_cons_succ]) | (with_reducible refine wpl_load (ty := 53) (fun K hK => ?_); refine wp_load_at _ _ rfl _ _ rfl ?_; refine LoadAt.row (n := 3) HM.out 0 rfl (by kernel_rfl) (by kernel_rfl) (Nat.le_of_ble_eq_true rfl) ?_; intro r hr; simp only [List.drop_zero, List.drop_succ_cons, List.take_zero, List.take_succ_cons, List.take_nil] at hr; subst hr; refine hK _ _ ?_; clear hK K; try simp only [Act.put, List.setIfInBounds_toArray, List.set_cons_zero, List.set_cons_succ]) | (with_reducible refine wpl_load (ty := 23) (fun K hK => ?_); refine wp_load_at _ _ rfl _ _ rfl ?_; refine LoadAt.row (n := 4) HM.out 0 rfl (by kernel_rfl) (by kernel_rfl) (Nat.le_of_ble_eq_true rfl) ?_; intro r hr; simp only [List.drop_zero, List.drop_succ_cons, List.take_zero, List.take_succ_cons, List.take_nil] at hr; subst hr; refine hK _ _ ?_; clear hK K; try simp only [Act.put, List.setIfInBounds_toArray, List.set_cons_zero, List.set_cons_succ]) | (with_reducible refine wpl_load (ty := 25) (fun K hK => ?_); refine wp_load_at _ _ rfl _ _ rfl ?_; refine LoadAt.row (n := 3) HM.out 0 rfl (by kernel_rfl) (by kernel_rfl) (Nat.le_of_ble_eq_true rfl) ?_; intro r hr; simp only [List.drop_zero, List.drop_succ_cons, List.take_zero, List.take_succ_cons, List.take_nil] at hr; subst hr; refine hK _ _ ?_; clear hK K; try simp only [Act.put, List.setIfInBounds_toArray, List.set_cons_zero, List.set_cons_succ]) | (with_reducible refine wpl_load (fun K hK => ?_); refine wp_load_at _ _ rfl _ _ rfl ?_; refine LoadAt.one HM.out 0 rfl (by kernel_rfl) (Nat.le_of_ble_eq_true rfl) ?_; intro v hv; simp only [List.getElem?_cons_zero, List.getElem?_cons_succ, Option.some.injEq] at hv; subst hv; refine hK _ _ ?_; clear hK K; try simp only [Act.put, List.setIfInBounds_toArray, List.set_cons_zero, List.set_cons_succ]) | (with_reducible refine wpl_store (ty := 57) (fun K hK => ?_); refine wp_store_at _ _ _ rfl _ _ rfl (.agg (List.toArray _)) rfl ?_; refine StoreAt.row HM.out 0 rfl (Nat.le_of_ble_eq_true rfl) (by kernel_rfl) rfl ?_; intro w9 new hnew hm; simp only [setAll, overlay] at hnew; subst hnew; simp only [List.set_cons_zero, List.set_cons_succ] at hm; clear HM; have HM := Lib.hid hm; clear hm; refine hK _ _ ?_; clear hK K; try simp only [Act.put, List.setIfInBounds_toArray, List.set_cons_zero, List.set_cons_succ]) | (with_reducible refine wpl_store (ty := 27) (fun K hK => ?_); refine wp_store_at _ _ _ rfl _ _ rfl (.agg (List.toArray _)) rfl ?_; refine StoreAt.row HM.out 0 rfl (Nat.le_of_ble_eq_true rfl) (by kernel_rfl) rfl ?_; intro w9 new hnew hm; simp only [setAll, overlay] at hnew; subst hnew; simp only [List.set_cons_zero, List.set_cons_succ] at hm; clear HM; have HM := Lib.hid hm; clear hm; refine hK _ _ ?_; clear hK K; try simp only [Act.put, List.setIfInBounds_toArray, List.set_cons_zero, List.set_cons_succ]) | (with_reducible refine wpl_store (ty := 51) (fun K hK => ?_); refine wp_store_at _ _ _ rfl _ _ rfl (.agg (List.toArray _)) rfl ?_; refine StoreAt.row HM.out 0 rfl (Nat.le_of_ble_eq_true rfl) (by kernel_rfl) rfl ?_; intro w9 new hnew hm; simp only [setAll, overlay] at hnew; subst hnew; simp only [List.set_cons_zero, List.set_cons_succ] at hm; clear HM; have HM := Lib.hid hm; clear hm; refine hK _ _ ?_; clear hK K; try simp only [Act.put, List.setIfInBounds_toArray, List.set_cons_zero, List.set_cons_succ]) | (with_reducible refine wpl_store (ty := 53) (fun K hK => ?_); refine wp_store_at _ _ _ rfl _ _ rfl (.agg (List.toArray _)) rfl ?_; refine StoreAt.row HM.out 0 rfl (Nat.le_of_ble_eq_true rfl) (by kernel_rfl) rfl ?_; intro w9 new hnew hm; simp only [setAll, overlay] at hnew; subst hnew; simp only [List.set_cons_zero, List.set_cons_succ] at hm; clear HM; have HM := Lib.hid hm; clear hm; refine hK _ _ ?_; clear hK K; try simp only [Act.put, List.setIfInBounds_toArray, List.set_cons_zero, List.set_cons_succ]) | (with_reducible refine wpl_store (ty := 23) (fun K hK => ?_); refine wp_store_at _ _ _ rfl _ _ rfl (.agg (List.toArray _)) rfl ?_; refine StoreAt.row HM.out 0 rfl (Nat.le_of_ble_eq_true rfl) (by kernel_rfl) rfl ?_; intro w9 new hnew hm; simp only [setAll, overlay] at hnew; subst hnew; simp only [List.set_cons_zero, List.set_cons_succ] at hm; clear HM; have HM := Lib.hid hm; clear hm; refine hK _ _ ?_; clear hK K; try simp only [Act.put, List.setIfInBounds_toArray, List.set_cons_zero, List.set_cons_succ]) | (with_reducible refine wpl_store (ty := 25) (fun K hK => ?_); refine wp_store_at _ _ _ rfl _ _ rfl (.agg (List.toArray _)) rfl ?_; refine StoreAt.row HM.out 0 rfl (Nat.le_of_ble_eq_true rfl) (by kernel_rfl) rfl ?_; intro w9 new hnew hm; simp only [setAll, overlay] at hnew; subst hnew; simp only [List.set_cons_zero, List.set_cons_succ] at hm; clear HM; have HM := Lib.hid hm; clear hm; refine hK _ _ ?_; clear hK K; try simp only [Act.put, List.setIfInBounds_toArray, List.set_cons_zero, List.set_cons_succ]) | (with_reducible refine wpl_store (ty := 3) (fun K hK => ?_); refine wp_store_at _ _ _ rfl _ _ rfl (.int _ _) rfl ?_; refine StoreAt.one HM.out 0 rfl (Nat.le_of_ble_eq_true rfl) rfl (by kernel_rfl) rfl ?_; intro w9 new hnew hm; simp only [List.set_cons_zero, List.set_cons_succ] at hnew; subst hnew; simp only [List.set_cons_zero, List.set_cons_succ] at hm; clear HM; have HM := Lib.hid hm; clear hm; refine hK _ _ ?_; clear hK K; try simp only [Act.put, List.setIfInBounds_toArray, List.set_cons_zero, List.set_cons_succ]) | (with_reducible refine wpl_alloc (ty := 57) (fun K hK => ?_); refine wp_alloc_ma 57 rfl HM.out [.int .i64 0, .int .i64 0, .int .i64 0, .int .i64 0, .int .i64 0, .int .i64 0, .int .i64 0, .int .i64 0, .int .i64 0, .int .i64 0, .int .i64 0, .int .i64 0, .int .i64 0, .int .i64 0, .int .i64 0, .int .i64 0, .int .i64 0, .int .i64 0] (by kernel_rfl) ?_; intro w9 k9 hm; clear HM; have HM := Lib.hid hm; clear hm; refine hK _ _ ?_; clear hK K; try simp only [Act.put, List.setIfInBounds_toArray, List.set_cons_zero, List.set_cons_succ]) | (with_reducible refine wpl_box (ty := 57) (fun K hK => ?_); refine wp_box_ma _ _ rfl HM.out _ rfl ?_; intro w9 kb9 hm; clear HM; have HM := Lib.hid hm; clear hm; refine hK _ _ ?_; clear hK K; try simp only [Act.put, List.setIfInBounds_toArray, List.set_cons_zero, List.set_cons_succ]) | (with_reducible refine wpl_box (ty := 27) (fun K hK => ?_); refine wp_box_ma _ _ rfl HM.out _ rfl ?_; intro w9 kb9 hm; clear HM; have HM := Lib.hid hm; clear hm; refine hK _ _ ?_; clear hK K; try simp only [Act.put, List.setIfInBounds_toArray, List.set_cons_zero, List.set_cons_succ]) | (with_reducible refine wpl_box (ty := 51) (fun K hK => ?_); refine wp_box_ma _ _ rfl HM.out _ rfl ?_; intro w9 kb9 hm; clear HM; have HM := Lib.hid hm; clear hm; refine hK _ _ ?_; clear hK K; try simp only [Act.put, List.setIfInBounds_toArray, List.set_cons_zero, List.set_cons_succ]) | (with_reducible refine wpl_box (ty := 53) (fun K hK => ?_); refine wp_box_ma _ _ rfl HM.out _ rfl ?_; intro w9 kb9 hm; clear HM; have HM := Lib.hid hm; clear hm; refine hK _ _ ?_; clear hK K; try simp only [Act.put, List.setIfInBounds_toArray, List.set_cons_zero, List.set_cons_succ]) | (with_reducible refine wpl_box (ty := 23) (fun K hK => ?_); refine wp_box_ma _ _ rfl HM.out _ rfl ?_; intro w9 kb9 hm; clear HM; have HM := Lib.hid hm; clear hm; refine hK _ _ ?_; clear hK K; try simp only [Act.put, List.setIfInBounds_toArray, List.set_cons_zero, List.set_cons_succ]) | (with_reducible refine wpl_box (ty := 25) (fun K hK => ?_); refine wp_box_ma _ _ rfl HM.out _ rfl ?_; intro w9 kb9 hm; clear HM; have HM := Lib.hid hm; clear hm; refine hK _ _ ?_; clear hK K; try simp only [Act.put, List.setIfInBounds_toArray, List.set_cons_zero, List.set_cons_succ]) | (with_reducible refine wpl_box (ty := 3) (fun K hK => ?_); refine wp_box_m1 _ _ rfl HM.out (.int _ _) rfl rfl ?_; intro w9 kb9 hm; clear HM; have HM := Lib.hid hm; clear hm; refine hK _ _ ?_; clear hK K; try simp only [Act.put, List.setIfInBounds_toArray, List.set_cons_zero, List.set_cons_succ]) | fail)
  go_cut [3, 4, 5] (fun s3 s4 s5 wx => ∃ g3 g4 g5, s3 = .pointer (some ⟨g3, 0, none⟩) ∧ s4 = .pointer (some ⟨g4, 0, none⟩) ∧ s5 = .pointer (some ⟨g5, 0, none⟩) ∧ Hid (Mem (fun _ => False) w [⟨g3, 51, [.int .i64 pi, .int .i64 px, .int .i64 py], true⟩, ⟨g4, 53, [.int .i64 si, .int .i64 sl, .int .i64 sh], true⟩, ⟨g5, 27, [.int .i64 qk, .int .i64 b1, .int .i64 b2, .int .i64 b3, .int .i64 b4, .int .i64 w1, .int .i64 w2, .int .i64 w3, .int .i64 x, .int .i64 h], true⟩, ⟨kb9, 57, [.int .i64 k, .int .i64 ck, .int .i64 pi, .int .i64 px, .int .i64 py, .int .i64 si, .int .i64 sl, .int .i64 sh, .int .i64 qk, .int .i64 b1, .int .i64 b2, .int .i64 b3, .int .i64 b4, .int .i64 w1, .int .i64 w2, .int .i64 w3, .int .i64 x, .int .i64 h], true⟩] wx))
  case first =>
    refine wp_region_noPanic ?_
    refine wp_region_held_drew (S := (fun w' => Blk w' kb9 57 #[.int .i64 k, .int .i64 ck, .int .i64 pi, .int .i64 px, .int .i64 py, .int .i64 si, .int .i64 sl, .int .i64 sh, .int .i64 qk, .int .i64 b1, .int .i64 b2, .int .i64 b3, .int .i64 b4, .int .i64 w1, .int .i64 w2, .int .i64 w3, .int .i64 x, .int .i64 h])) (by kernel_rfl) ?_ (fun hHeld => ?_)
    · exact HM.out.at_ 0 rfl
    have hm := HM.out.drew
    clear HM
    have HM := Lib.hid hm
    clear hm
    refine wpAnyH_take (i := 0) (oi := ⟨_, _, _, _, _, _⟩) (v := ?_) rfl (by kernel_rfl) (by kernel_rfl) (by kernel_rfl) (fun _ _ _ h => h) (Or.inl ⟨by rfl, ?_⟩) (by assumption) ?_
    rotate_left
    · intro w hSw; (try dsimp only at hSw); go_split_ands; go_simp; try with_reducible rfl
    try simp only [Act.put, List.setIfInBounds_toArray, List.set_cons_zero, List.set_cons_succ]
    refine wpAnyH_take (i := 1) (oi := ⟨_, _, _, _, _, _⟩) (v := ?_) rfl (by kernel_rfl) (by kernel_rfl) (by kernel_rfl) (fun _ _ _ h => h) (Or.inl ⟨by rfl, ?_⟩) (by assumption) ?_
    rotate_left
    · intro w hSw; (try dsimp only at hSw); go_split_ands; go_simp; try with_reducible rfl
    try simp only [Act.put, List.setIfInBounds_toArray, List.set_cons_zero, List.set_cons_succ]
    refine wpAnyH_take (i := 2) (oi := ⟨_, _, _, _, _, _⟩) (v := .agg #[.int .i64 pi, .int .i64 px, .int .i64 py]) rfl (by kernel_rfl) (by kernel_rfl) (by kernel_rfl) (fun _ _ _ h => h) (yieldsIf_load_mid (by rfl) 51 (.tmp 8) rfl _ 2 rfl [.int .i64 pi, .int .i64 px, .int .i64 py] _ (fun w h => range_of_blk h 2 3 _ rfl) Try.underlying51 rfl (by kernel_rfl)) (by assumption) ?_
    try simp only [Act.put, List.setIfInBounds_toArray, List.set_cons_zero, List.set_cons_succ]
    refine wpAnyH_take (i := 3) (oi := ⟨_, _, _, _, _, _⟩) (v := ?_) rfl (by kernel_rfl) (by kernel_rfl) (by kernel_rfl) (fun _ _ _ h => h) (Or.inl ⟨by rfl, ?_⟩) (by assumption) ?_
    rotate_left
    · intro w hSw; (try dsimp only at hSw); go_split_ands; go_simp; try with_reducible rfl
    try simp only [Act.put, List.setIfInBounds_toArray, List.set_cons_zero, List.set_cons_succ]
    refine wpAnyH_take (i := 4) (oi := ⟨_, _, _, _, _, _⟩) (v := ?_) rfl (by kernel_rfl) (by kernel_rfl) (by kernel_rfl) (fun _ _ _ h => h) (Or.inl ⟨by rfl, ?_⟩) (by assumption) ?_
    rotate_left
    · intro w hSw; (try dsimp only at hSw); go_split_ands; go_simp; try with_reducible rfl
    try simp only [Act.put, List.setIfInBounds_toArray, List.set_cons_zero, List.set_cons_succ]
    refine wpAnyH_take (i := 5) (oi := ⟨_, _, _, _, _, _⟩) (v := .agg #[.int .i64 si, .int .i64 sl, .int .i64 sh]) rfl (by kernel_rfl) (by kernel_rfl) (by kernel_rfl) (fun _ _ _ h => h) (yieldsIf_load_mid (by rfl) 53 (.tmp 11) rfl _ 5 rfl [.int .i64 si, .int .i64 sl, .int .i64 sh] _ (fun w h => range_of_blk h 5 3 _ rfl) Try.underlying53 rfl (by kernel_rfl)) (by assumption) ?_
    try simp only [Act.put, List.setIfInBounds_toArray, List.set_cons_zero, List.set_cons_succ]
    refine wpAnyH_take (i := 6) (oi := ⟨_, _, _, _, _, _⟩) (v := ?_) rfl (by kernel_rfl) (by kernel_rfl) (by kernel_rfl) (fun _ _ _ h => h) (Or.inl ⟨by rfl, ?_⟩) (by assumption) ?_
    rotate_left
    · intro w hSw; (try dsimp only at hSw); go_split_ands; go_simp; try with_reducible rfl
    try simp only [Act.put, List.setIfInBounds_toArray, List.set_cons_zero, List.set_cons_succ]
    refine wpAnyH_take (i := 7) (oi := ⟨_, _, _, _, _, _⟩) (v := .agg #[.int .i64 qk, .int .i64 b1, .int .i64 b2, .int .i64 b3, .int .i64 b4, .int .i64 w1, .int .i64 w2, .int .i64 w3, .int .i64 x, .int .i64 h]) rfl (by kernel_rfl) (by kernel_rfl) (by kernel_rfl) (fun _ _ _ h => h) (yieldsIf_load_mid (by rfl) 27 (.tmp 13) rfl _ 8 rfl [.int .i64 qk, .int .i64 b1, .int .i64 b2, .int .i64 b3, .int .i64 b4, .int .i64 w1, .int .i64 w2, .int .i64 w3, .int .i64 x, .int .i64 h] _ (fun w h => range_of_blk h 8 10 _ rfl) Try.underlying27 rfl (by kernel_rfl)) (by assumption) ?_
    try simp only [Act.put, List.setIfInBounds_toArray, List.set_cons_zero, List.set_cons_succ]
    refine wpAnyH_ready (rs := [8, 9, 10]) (by kernel_rfl) (by simp) ?_
    refine AllReadyH.cons (o := ⟨_, _, _, _, _, _⟩) rfl (fun K hK => ?_) (AllReadyH.cons (o := ⟨_, _, _, _, _, _⟩) rfl (fun K hK => ?_) (AllReadyH.cons (o := ⟨_, _, _, _, _, _⟩) rfl (fun K hK => ?_) AllReadyH.nil))
    · refine step_m rfl (wp_alloc_ma 51 rfl HM.out [.int .i64 0, .int .i64 0, .int .i64 0] (by kernel_rfl) ?_)
      intro w9 k9 hm
      clear HM
      have HM := Lib.hid hm
      clear hm
      refine hK.out _ _ ?_ (fun hHeld => ?_)
      · first | exact HM.out.at_ 0 rfl | exact HM.out.at_ 1 rfl | exact HM.out.at_ 2 rfl | exact HM.out.at_ 3 rfl
      clear hK K
      try simp only [Act.put, List.setIfInBounds_toArray, List.set_cons_zero, List.set_cons_succ]
      refine wpAnyH_ready (rs := [9, 10]) (by kernel_rfl) (by simp) ?_
      refine AllReadyH.cons (o := ⟨_, _, _, _, _, _⟩) rfl (fun K hK => ?_) (AllReadyH.cons (o := ⟨_, _, _, _, _, _⟩) rfl (fun K hK => ?_) AllReadyH.nil)
      · refine step_m rfl (wp_alloc_ma 53 rfl HM.out [.int .i64 0, .int .i64 0, .int .i64 0] (by kernel_rfl) ?_)
        intro w9 k9 hm
        clear HM
        have HM := Lib.hid hm
        clear hm
        refine hK.out _ _ ?_ (fun hHeld => ?_)
        · first | exact HM.out.at_ 0 rfl | exact HM.out.at_ 1 rfl | exact HM.out.at_ 2 rfl | exact HM.out.at_ 3 rfl
        clear hK K
        try simp only [Act.put, List.setIfInBounds_toArray, List.set_cons_zero, List.set_cons_succ]
        refine wpAnyH_ready (rs := [10]) (by kernel_rfl) (by simp) ?_
        refine AllReadyH.cons (o := ⟨_, _, _, _, _, _⟩) rfl (fun K hK => ?_) AllReadyH.nil
        refine step_m rfl (wp_alloc_ma 27 rfl HM.out [.int .i64 0, .int .i64 0, .int .i64 0, .int .i64 0, .int .i64 0, .int .i64 0, .int .i64 0, .int .i64 0, .int .i64 0, .int .i64 0] (by kernel_rfl) ?_)
        intro w9 k9 hm
        clear HM
        have HM := Lib.hid hm
        clear hm
        refine hK.out _ _ ?_ (fun hHeld => ?_)
        · first | exact HM.out.at_ 0 rfl | exact HM.out.at_ 1 rfl | exact HM.out.at_ 2 rfl | exact HM.out.at_ 3 rfl
        clear hK K
        try simp only [Act.put, List.setIfInBounds_toArray, List.set_cons_zero, List.set_cons_succ]
        refine wpAnyH_ready (rs := [11]) (by kernel_rfl) (by simp) ?_
        refine AllReadyH.cons (o := ⟨_, _, _, _, _, _⟩) rfl (fun K hK => ?_) AllReadyH.nil
        refine step_m rfl ?_
        refine wp_store_at _ _ _ rfl _ _ rfl (.agg (List.toArray _)) rfl ?_
        (first | refine StoreAt.row HM.out 0 rfl (Nat.le_of_ble_eq_true rfl) (by kernel_rfl) rfl ?_ | refine StoreAt.row HM.out 1 rfl (Nat.le_of_ble_eq_true rfl) (by kernel_rfl) rfl ?_ | refine StoreAt.row HM.out 2 rfl (Nat.le_of_ble_eq_true rfl) (by kernel_rfl) rfl ?_)
        intro w9 new hnew hm
        simp only [setAll, overlay] at hnew
        subst hnew
        simp only [List.set_cons_zero, List.set_cons_succ] at hm
        clear HM
        have HM := Lib.hid hm
        clear hm
        refine hK.out _ _ ?_ (fun hHeld => ?_)
        · first | exact HM.out.at_ 0 rfl | exact HM.out.at_ 1 rfl | exact HM.out.at_ 2 rfl | exact HM.out.at_ 3 rfl
        clear hK K
        try simp only [Act.put, List.setIfInBounds_toArray, List.set_cons_zero, List.set_cons_succ]
        refine wpAnyH_ready (rs := [12]) (by kernel_rfl) (by simp) ?_
        refine AllReadyH.cons (o := ⟨_, _, _, _, _, _⟩) rfl (fun K hK => ?_) AllReadyH.nil
        refine step_m rfl ?_
        refine wp_store_at _ _ _ rfl _ _ rfl (.agg (List.toArray _)) rfl ?_
        (first | refine StoreAt.row HM.out 0 rfl (Nat.le_of_ble_eq_true rfl) (by kernel_rfl) rfl ?_ | refine StoreAt.row HM.out 1 rfl (Nat.le_of_ble_eq_true rfl) (by kernel_rfl) rfl ?_ | refine StoreAt.row HM.out 2 rfl (Nat.le_of_ble_eq_true rfl) (by kernel_rfl) rfl ?_)
        intro w9 new hnew hm
        simp only [setAll, overlay] at hnew
        subst hnew
        simp only [List.set_cons_zero, List.set_cons_succ] at hm
        clear HM
        have HM := Lib.hid hm
        clear hm
        refine hK.out _ _ ?_ (fun hHeld => ?_)
        · first | exact HM.out.at_ 0 rfl | exact HM.out.at_ 1 rfl | exact HM.out.at_ 2 rfl | exact HM.out.at_ 3 rfl
        clear hK K
        try simp only [Act.put, List.setIfInBounds_toArray, List.set_cons_zero, List.set_cons_succ]
        refine wpAnyH_ready (rs := [13]) (by kernel_rfl) (by simp) ?_
        refine AllReadyH.cons (o := ⟨_, _, _, _, _, _⟩) rfl (fun K hK => ?_) AllReadyH.nil
        refine step_m rfl ?_
        refine wp_store_at _ _ _ rfl _ _ rfl (.agg (List.toArray _)) rfl ?_
        (first | refine StoreAt.row HM.out 0 rfl (Nat.le_of_ble_eq_true rfl) (by kernel_rfl) rfl ?_ | refine StoreAt.row HM.out 1 rfl (Nat.le_of_ble_eq_true rfl) (by kernel_rfl) rfl ?_ | refine StoreAt.row HM.out 2 rfl (Nat.le_of_ble_eq_true rfl) (by kernel_rfl) rfl ?_)
        intro w9 new hnew hm
        simp only [setAll, overlay] at hnew
        subst hnew
        simp only [List.set_cons_zero, List.set_cons_succ] at hm
        clear HM
        have HM := Lib.hid hm
        clear hm
        refine hK.out _ _ ?_ (fun hHeld => ?_)
        · first | exact HM.out.at_ 0 rfl | exact HM.out.at_ 1 rfl | exact HM.out.at_ 2 rfl | exact HM.out.at_ 3 rfl
        clear hK K
        try simp only [Act.put, List.setIfInBounds_toArray, List.set_cons_zero, List.set_cons_succ]
        refine wpAnyH_done (by kernel_rfl) ?_ _
        refine NoPanic.normal ?_
        go_wp2_with fail
        go_meet
        exact ⟨_, _, _, rfl, rfl, rfl, Lib.hid (by first | exact HM.out | exact HM.out.swap | exact HM.out.deep | exact HM.out.swap.deep | exact HM.out.deep.swap | exact HM.out.swap.deep.swap)⟩
      · refine step_m rfl (wp_alloc_ma 27 rfl HM.out [.int .i64 0, .int .i64 0, .int .i64 0, .int .i64 0, .int .i64 0, .int .i64 0, .int .i64 0, .int .i64 0, .int .i64 0, .int .i64 0] (by kernel_rfl) ?_)
        intro w9 k9 hm
        clear HM
        have HM := Lib.hid hm
        clear hm
        refine hK.out _ _ ?_ (fun hHeld => ?_)
        · first | exact HM.out.at_ 0 rfl | exact HM.out.at_ 1 rfl | exact HM.out.at_ 2 rfl | exact HM.out.at_ 3 rfl
        clear hK K
        try simp only [Act.put, List.setIfInBounds_toArray, List.set_cons_zero, List.set_cons_succ]
        refine wpAnyH_ready (rs := [9]) (by kernel_rfl) (by simp) ?_
        refine AllReadyH.cons (o := ⟨_, _, _, _, _, _⟩) rfl (fun K hK => ?_) AllReadyH.nil
        refine step_m rfl (wp_alloc_ma 53 rfl HM.out [.int .i64 0, .int .i64 0, .int .i64 0] (by kernel_rfl) ?_)
        intro w9 k9 hm
        clear HM
        have HM := Lib.hid hm
        clear hm
        refine hK.out _ _ ?_ (fun hHeld => ?_)
        · first | exact HM.out.at_ 0 rfl | exact HM.out.at_ 1 rfl | exact HM.out.at_ 2 rfl | exact HM.out.at_ 3 rfl
        clear hK K
        try simp only [Act.put, List.setIfInBounds_toArray, List.set_cons_zero, List.set_cons_succ]
        refine wpAnyH_ready (rs := [11]) (by kernel_rfl) (by simp) ?_
        refine AllReadyH.cons (o := ⟨_, _, _, _, _, _⟩) rfl (fun K hK => ?_) AllReadyH.nil
        refine step_m rfl ?_
        refine wp_store_at _ _ _ rfl _ _ rfl (.agg (List.toArray _)) rfl ?_
        (first | refine StoreAt.row HM.out 0 rfl (Nat.le_of_ble_eq_true rfl) (by kernel_rfl) rfl ?_ | refine StoreAt.row HM.out 1 rfl (Nat.le_of_ble_eq_true rfl) (by kernel_rfl) rfl ?_ | refine StoreAt.row HM.out 2 rfl (Nat.le_of_ble_eq_true rfl) (by kernel_rfl) rfl ?_)
        intro w9 new hnew hm
        simp only [setAll, overlay] at hnew
        subst hnew
        simp only [List.set_cons_zero, List.set_cons_succ] at hm
        clear HM
        have HM := Lib.hid hm
        clear hm
        refine hK.out _ _ ?_ (fun hHeld => ?_)
        · first | exact HM.out.at_ 0 rfl | exact HM.out.at_ 1 rfl | exact HM.out.at_ 2 rfl | exact HM.out.at_ 3 rfl
        clear hK K
        try simp only [Act.put, List.setIfInBounds_toArray, List.set_cons_zero, List.set_cons_succ]
        refine wpAnyH_ready (rs := [12]) (by kernel_rfl) (by simp) ?_
        refine AllReadyH.cons (o := ⟨_, _, _, _, _, _⟩) rfl (fun K hK => ?_) AllReadyH.nil
        refine step_m rfl ?_
        refine wp_store_at _ _ _ rfl _ _ rfl (.agg (List.toArray _)) rfl ?_
        (first | refine StoreAt.row HM.out 0 rfl (Nat.le_of_ble_eq_true rfl) (by kernel_rfl) rfl ?_ | refine StoreAt.row HM.out 1 rfl (Nat.le_of_ble_eq_true rfl) (by kernel_rfl) rfl ?_ | refine StoreAt.row HM.out 2 rfl (Nat.le_of_ble_eq_true rfl) (by kernel_rfl) rfl ?_)
        intro w9 new hnew hm
        simp only [setAll, overlay] at hnew
        subst hnew
        simp only [List.set_cons_zero, List.set_cons_succ] at hm
        clear HM
        have HM := Lib.hid hm
        clear hm
        refine hK.out _ _ ?_ (fun hHeld => ?_)
        · first | exact HM.out.at_ 0 rfl | exact HM.out.at_ 1 rfl | exact HM.out.at_ 2 rfl | exact HM.out.at_ 3 rfl
        clear hK K
        try simp only [Act.put, List.setIfInBounds_toArray, List.set_cons_zero, List.set_cons_succ]
        refine wpAnyH_ready (rs := [13]) (by kernel_rfl) (by simp) ?_
        refine AllReadyH.cons (o := ⟨_, _, _, _, _, _⟩) rfl (fun K hK => ?_) AllReadyH.nil
        refine step_m rfl ?_
        refine wp_store_at _ _ _ rfl _ _ rfl (.agg (List.toArray _)) rfl ?_
        (first | refine StoreAt.row HM.out 0 rfl (Nat.le_of_ble_eq_true rfl) (by kernel_rfl) rfl ?_ | refine StoreAt.row HM.out 1 rfl (Nat.le_of_ble_eq_true rfl) (by kernel_rfl) rfl ?_ | refine StoreAt.row HM.out 2 rfl (Nat.le_of_ble_eq_true rfl) (by kernel_rfl) rfl ?_)
        intro w9 new hnew hm
        simp only [setAll, overlay] at hnew
        subst hnew
        simp only [List.set_cons_zero, List.set_cons_succ] at hm
        clear HM
        have HM := Lib.hid hm
        clear hm
        refine hK.out _ _ ?_ (fun hHeld => ?_)
        · first | exact HM.out.at_ 0 rfl | exact HM.out.at_ 1 rfl | exact HM.out.at_ 2 rfl | exact HM.out.at_ 3 rfl
        clear hK K
        try simp only [Act.put, List.setIfInBounds_toArray, List.set_cons_zero, List.set_cons_succ]
        refine wpAnyH_done (by kernel_rfl) ?_ _
        refine NoPanic.normal ?_
        go_wp2_with fail
        go_meet
        exact ⟨_, _, _, rfl, rfl, rfl, Lib.hid (by first | exact HM.out | exact HM.out.swap | exact HM.out.deep | exact HM.out.swap.deep | exact HM.out.deep.swap | exact HM.out.swap.deep.swap)⟩
    · refine step_m rfl (wp_alloc_ma 53 rfl HM.out [.int .i64 0, .int .i64 0, .int .i64 0] (by kernel_rfl) ?_)
      intro w9 k9 hm
      clear HM
      have HM := Lib.hid hm
      clear hm
      refine hK.out _ _ ?_ (fun hHeld => ?_)
      · first | exact HM.out.at_ 0 rfl | exact HM.out.at_ 1 rfl | exact HM.out.at_ 2 rfl | exact HM.out.at_ 3 rfl
      clear hK K
      try simp only [Act.put, List.setIfInBounds_toArray, List.set_cons_zero, List.set_cons_succ]
      refine wpAnyH_ready (rs := [8, 10]) (by kernel_rfl) (by simp) ?_
      refine AllReadyH.cons (o := ⟨_, _, _, _, _, _⟩) rfl (fun K hK => ?_) (AllReadyH.cons (o := ⟨_, _, _, _, _, _⟩) rfl (fun K hK => ?_) AllReadyH.nil)
      · refine step_m rfl (wp_alloc_ma 51 rfl HM.out [.int .i64 0, .int .i64 0, .int .i64 0] (by kernel_rfl) ?_)
        intro w9 k9 hm
        clear HM
        have HM := Lib.hid hm
        clear hm
        refine hK.out _ _ ?_ (fun hHeld => ?_)
        · first | exact HM.out.at_ 0 rfl | exact HM.out.at_ 1 rfl | exact HM.out.at_ 2 rfl | exact HM.out.at_ 3 rfl
        clear hK K
        try simp only [Act.put, List.setIfInBounds_toArray, List.set_cons_zero, List.set_cons_succ]
        refine wpAnyH_ready (rs := [10]) (by kernel_rfl) (by simp) ?_
        refine AllReadyH.cons (o := ⟨_, _, _, _, _, _⟩) rfl (fun K hK => ?_) AllReadyH.nil
        refine step_m rfl (wp_alloc_ma 27 rfl HM.out [.int .i64 0, .int .i64 0, .int .i64 0, .int .i64 0, .int .i64 0, .int .i64 0, .int .i64 0, .int .i64 0, .int .i64 0, .int .i64 0] (by kernel_rfl) ?_)
        intro w9 k9 hm
        clear HM
        have HM := Lib.hid hm
        clear hm
        refine hK.out _ _ ?_ (fun hHeld => ?_)
        · first | exact HM.out.at_ 0 rfl | exact HM.out.at_ 1 rfl | exact HM.out.at_ 2 rfl | exact HM.out.at_ 3 rfl
        clear hK K
        try simp only [Act.put, List.setIfInBounds_toArray, List.set_cons_zero, List.set_cons_succ]
        refine wpAnyH_ready (rs := [11]) (by kernel_rfl) (by simp) ?_
        refine AllReadyH.cons (o := ⟨_, _, _, _, _, _⟩) rfl (fun K hK => ?_) AllReadyH.nil
        refine step_m rfl ?_
        refine wp_store_at _ _ _ rfl _ _ rfl (.agg (List.toArray _)) rfl ?_
        (first | refine StoreAt.row HM.out 0 rfl (Nat.le_of_ble_eq_true rfl) (by kernel_rfl) rfl ?_ | refine StoreAt.row HM.out 1 rfl (Nat.le_of_ble_eq_true rfl) (by kernel_rfl) rfl ?_ | refine StoreAt.row HM.out 2 rfl (Nat.le_of_ble_eq_true rfl) (by kernel_rfl) rfl ?_)
        intro w9 new hnew hm
        simp only [setAll, overlay] at hnew
        subst hnew
        simp only [List.set_cons_zero, List.set_cons_succ] at hm
        clear HM
        have HM := Lib.hid hm
        clear hm
        refine hK.out _ _ ?_ (fun hHeld => ?_)
        · first | exact HM.out.at_ 0 rfl | exact HM.out.at_ 1 rfl | exact HM.out.at_ 2 rfl | exact HM.out.at_ 3 rfl
        clear hK K
        try simp only [Act.put, List.setIfInBounds_toArray, List.set_cons_zero, List.set_cons_succ]
        refine wpAnyH_ready (rs := [12]) (by kernel_rfl) (by simp) ?_
        refine AllReadyH.cons (o := ⟨_, _, _, _, _, _⟩) rfl (fun K hK => ?_) AllReadyH.nil
        refine step_m rfl ?_
        refine wp_store_at _ _ _ rfl _ _ rfl (.agg (List.toArray _)) rfl ?_
        (first | refine StoreAt.row HM.out 0 rfl (Nat.le_of_ble_eq_true rfl) (by kernel_rfl) rfl ?_ | refine StoreAt.row HM.out 1 rfl (Nat.le_of_ble_eq_true rfl) (by kernel_rfl) rfl ?_ | refine StoreAt.row HM.out 2 rfl (Nat.le_of_ble_eq_true rfl) (by kernel_rfl) rfl ?_)
        intro w9 new hnew hm
        simp only [setAll, overlay] at hnew
        subst hnew
        simp only [List.set_cons_zero, List.set_cons_succ] at hm
        clear HM
        have HM := Lib.hid hm
        clear hm
        refine hK.out _ _ ?_ (fun hHeld => ?_)
        · first | exact HM.out.at_ 0 rfl | exact HM.out.at_ 1 rfl | exact HM.out.at_ 2 rfl | exact HM.out.at_ 3 rfl
        clear hK K
        try simp only [Act.put, List.setIfInBounds_toArray, List.set_cons_zero, List.set_cons_succ]
        refine wpAnyH_ready (rs := [13]) (by kernel_rfl) (by simp) ?_
        refine AllReadyH.cons (o := ⟨_, _, _, _, _, _⟩) rfl (fun K hK => ?_) AllReadyH.nil
        refine step_m rfl ?_
        refine wp_store_at _ _ _ rfl _ _ rfl (.agg (List.toArray _)) rfl ?_
        (first | refine StoreAt.row HM.out 0 rfl (Nat.le_of_ble_eq_true rfl) (by kernel_rfl) rfl ?_ | refine StoreAt.row HM.out 1 rfl (Nat.le_of_ble_eq_true rfl) (by kernel_rfl) rfl ?_ | refine StoreAt.row HM.out 2 rfl (Nat.le_of_ble_eq_true rfl) (by kernel_rfl) rfl ?_)
        intro w9 new hnew hm
        simp only [setAll, overlay] at hnew
        subst hnew
        simp only [List.set_cons_zero, List.set_cons_succ] at hm
        clear HM
        have HM := Lib.hid hm
        clear hm
        refine hK.out _ _ ?_ (fun hHeld => ?_)
        · first | exact HM.out.at_ 0 rfl | exact HM.out.at_ 1 rfl | exact HM.out.at_ 2 rfl | exact HM.out.at_ 3 rfl
        clear hK K
        try simp only [Act.put, List.setIfInBounds_toArray, List.set_cons_zero, List.set_cons_succ]
        refine wpAnyH_done (by kernel_rfl) ?_ _
        refine NoPanic.normal ?_
        go_wp2_with fail
        go_meet
        exact ⟨_, _, _, rfl, rfl, rfl, Lib.hid (by first | exact HM.out | exact HM.out.swap | exact HM.out.deep | exact HM.out.swap.deep | exact HM.out.deep.swap | exact HM.out.swap.deep.swap)⟩
      · refine step_m rfl (wp_alloc_ma 27 rfl HM.out [.int .i64 0, .int .i64 0, .int .i64 0, .int .i64 0, .int .i64 0, .int .i64 0, .int .i64 0, .int .i64 0, .int .i64 0, .int .i64 0] (by kernel_rfl) ?_)
        intro w9 k9 hm
        clear HM
        have HM := Lib.hid hm
        clear hm
        refine hK.out _ _ ?_ (fun hHeld => ?_)
        · first | exact HM.out.at_ 0 rfl | exact HM.out.at_ 1 rfl | exact HM.out.at_ 2 rfl | exact HM.out.at_ 3 rfl
        clear hK K
        try simp only [Act.put, List.setIfInBounds_toArray, List.set_cons_zero, List.set_cons_succ]
        refine wpAnyH_ready (rs := [8]) (by kernel_rfl) (by simp) ?_
        refine AllReadyH.cons (o := ⟨_, _, _, _, _, _⟩) rfl (fun K hK => ?_) AllReadyH.nil
        refine step_m rfl (wp_alloc_ma 51 rfl HM.out [.int .i64 0, .int .i64 0, .int .i64 0] (by kernel_rfl) ?_)
        intro w9 k9 hm
        clear HM
        have HM := Lib.hid hm
        clear hm
        refine hK.out _ _ ?_ (fun hHeld => ?_)
        · first | exact HM.out.at_ 0 rfl | exact HM.out.at_ 1 rfl | exact HM.out.at_ 2 rfl | exact HM.out.at_ 3 rfl
        clear hK K
        try simp only [Act.put, List.setIfInBounds_toArray, List.set_cons_zero, List.set_cons_succ]
        refine wpAnyH_ready (rs := [11]) (by kernel_rfl) (by simp) ?_
        refine AllReadyH.cons (o := ⟨_, _, _, _, _, _⟩) rfl (fun K hK => ?_) AllReadyH.nil
        refine step_m rfl ?_
        refine wp_store_at _ _ _ rfl _ _ rfl (.agg (List.toArray _)) rfl ?_
        (first | refine StoreAt.row HM.out 0 rfl (Nat.le_of_ble_eq_true rfl) (by kernel_rfl) rfl ?_ | refine StoreAt.row HM.out 1 rfl (Nat.le_of_ble_eq_true rfl) (by kernel_rfl) rfl ?_ | refine StoreAt.row HM.out 2 rfl (Nat.le_of_ble_eq_true rfl) (by kernel_rfl) rfl ?_)
        intro w9 new hnew hm
        simp only [setAll, overlay] at hnew
        subst hnew
        simp only [List.set_cons_zero, List.set_cons_succ] at hm
        clear HM
        have HM := Lib.hid hm
        clear hm
        refine hK.out _ _ ?_ (fun hHeld => ?_)
        · first | exact HM.out.at_ 0 rfl | exact HM.out.at_ 1 rfl | exact HM.out.at_ 2 rfl | exact HM.out.at_ 3 rfl
        clear hK K
        try simp only [Act.put, List.setIfInBounds_toArray, List.set_cons_zero, List.set_cons_succ]
        refine wpAnyH_ready (rs := [12]) (by kernel_rfl) (by simp) ?_
        refine AllReadyH.cons (o := ⟨_, _, _, _, _, _⟩) rfl (fun K hK => ?_) AllReadyH.nil
        refine step_m rfl ?_
        refine wp_store_at _ _ _ rfl _ _ rfl (.agg (List.toArray _)) rfl ?_
        (first | refine StoreAt.row HM.out 0 rfl (Nat.le_of_ble_eq_true rfl) (by kernel_rfl) rfl ?_ | refine StoreAt.row HM.out 1 rfl (Nat.le_of_ble_eq_true rfl) (by kernel_rfl) rfl ?_ | refine StoreAt.row HM.out 2 rfl (Nat.le_of_ble_eq_true rfl) (by kernel_rfl) rfl ?_)
        intro w9 new hnew hm
        simp only [setAll, overlay] at hnew
        subst hnew
        simp only [List.set_cons_zero, List.set_cons_succ] at hm
        clear HM
        have HM := Lib.hid hm
        clear hm
        refine hK.out _ _ ?_ (fun hHeld => ?_)
        · first | exact HM.out.at_ 0 rfl | exact HM.out.at_ 1 rfl | exact HM.out.at_ 2 rfl | exact HM.out.at_ 3 rfl
        clear hK K
        try simp only [Act.put, List.setIfInBounds_toArray, List.set_cons_zero, List.set_cons_succ]
        refine wpAnyH_ready (rs := [13]) (by kernel_rfl) (by simp) ?_
        refine AllReadyH.cons (o := ⟨_, _, _, _, _, _⟩) rfl (fun K hK => ?_) AllReadyH.nil
        refine step_m rfl ?_
        refine wp_store_at _ _ _ rfl _ _ rfl (.agg (List.toArray _)) rfl ?_
        (first | refine StoreAt.row HM.out 0 rfl (Nat.le_of_ble_eq_true rfl) (by kernel_rfl) rfl ?_ | refine StoreAt.row HM.out 1 rfl (Nat.le_of_ble_eq_true rfl) (by kernel_rfl) rfl ?_ | refine StoreAt.row HM.out 2 rfl (Nat.le_of_ble_eq_true rfl) (by kernel_rfl) rfl ?_)
        intro w9 new hnew hm
        simp only [setAll, overlay] at hnew
        subst hnew
        simp only [List.set_cons_zero, List.set_cons_succ] at hm
        clear HM
        have HM := Lib.hid hm
        clear hm
        refine hK.out _ _ ?_ (fun hHeld => ?_)
        · first | exact HM.out.at_ 0 rfl | exact HM.out.at_ 1 rfl | exact HM.out.at_ 2 rfl | exact HM.out.at_ 3 rfl
        clear hK K
        try simp only [Act.put, List.setIfInBounds_toArray, List.set_cons_zero, List.set_cons_succ]
        refine wpAnyH_done (by kernel_rfl) ?_ _
        refine NoPanic.normal ?_
        go_wp2_with fail
        go_meet
        exact ⟨_, _, _, rfl, rfl, rfl, Lib.hid (by first | exact HM.out | exact HM.out.swap | exact HM.out.deep | exact HM.out.swap.deep | exact HM.out.deep.swap | exact HM.out.swap.deep.swap)⟩
    · refine step_m rfl (wp_alloc_ma 27 rfl HM.out [.int .i64 0, .int .i64 0, .int .i64 0, .int .i64 0, .int .i64 0, .int .i64 0, .int .i64 0, .int .i64 0, .int .i64 0, .int .i64 0] (by kernel_rfl) ?_)
      intro w9 k9 hm
      clear HM
      have HM := Lib.hid hm
      clear hm
      refine hK.out _ _ ?_ (fun hHeld => ?_)
      · first | exact HM.out.at_ 0 rfl | exact HM.out.at_ 1 rfl | exact HM.out.at_ 2 rfl | exact HM.out.at_ 3 rfl
      clear hK K
      try simp only [Act.put, List.setIfInBounds_toArray, List.set_cons_zero, List.set_cons_succ]
      refine wpAnyH_ready (rs := [8, 9]) (by kernel_rfl) (by simp) ?_
      refine AllReadyH.cons (o := ⟨_, _, _, _, _, _⟩) rfl (fun K hK => ?_) (AllReadyH.cons (o := ⟨_, _, _, _, _, _⟩) rfl (fun K hK => ?_) AllReadyH.nil)
      · refine step_m rfl (wp_alloc_ma 51 rfl HM.out [.int .i64 0, .int .i64 0, .int .i64 0] (by kernel_rfl) ?_)
        intro w9 k9 hm
        clear HM
        have HM := Lib.hid hm
        clear hm
        refine hK.out _ _ ?_ (fun hHeld => ?_)
        · first | exact HM.out.at_ 0 rfl | exact HM.out.at_ 1 rfl | exact HM.out.at_ 2 rfl | exact HM.out.at_ 3 rfl
        clear hK K
        try simp only [Act.put, List.setIfInBounds_toArray, List.set_cons_zero, List.set_cons_succ]
        refine wpAnyH_ready (rs := [9]) (by kernel_rfl) (by simp) ?_
        refine AllReadyH.cons (o := ⟨_, _, _, _, _, _⟩) rfl (fun K hK => ?_) AllReadyH.nil
        refine step_m rfl (wp_alloc_ma 53 rfl HM.out [.int .i64 0, .int .i64 0, .int .i64 0] (by kernel_rfl) ?_)
        intro w9 k9 hm
        clear HM
        have HM := Lib.hid hm
        clear hm
        refine hK.out _ _ ?_ (fun hHeld => ?_)
        · first | exact HM.out.at_ 0 rfl | exact HM.out.at_ 1 rfl | exact HM.out.at_ 2 rfl | exact HM.out.at_ 3 rfl
        clear hK K
        try simp only [Act.put, List.setIfInBounds_toArray, List.set_cons_zero, List.set_cons_succ]
        refine wpAnyH_ready (rs := [11]) (by kernel_rfl) (by simp) ?_
        refine AllReadyH.cons (o := ⟨_, _, _, _, _, _⟩) rfl (fun K hK => ?_) AllReadyH.nil
        refine step_m rfl ?_
        refine wp_store_at _ _ _ rfl _ _ rfl (.agg (List.toArray _)) rfl ?_
        (first | refine StoreAt.row HM.out 0 rfl (Nat.le_of_ble_eq_true rfl) (by kernel_rfl) rfl ?_ | refine StoreAt.row HM.out 1 rfl (Nat.le_of_ble_eq_true rfl) (by kernel_rfl) rfl ?_ | refine StoreAt.row HM.out 2 rfl (Nat.le_of_ble_eq_true rfl) (by kernel_rfl) rfl ?_)
        intro w9 new hnew hm
        simp only [setAll, overlay] at hnew
        subst hnew
        simp only [List.set_cons_zero, List.set_cons_succ] at hm
        clear HM
        have HM := Lib.hid hm
        clear hm
        refine hK.out _ _ ?_ (fun hHeld => ?_)
        · first | exact HM.out.at_ 0 rfl | exact HM.out.at_ 1 rfl | exact HM.out.at_ 2 rfl | exact HM.out.at_ 3 rfl
        clear hK K
        try simp only [Act.put, List.setIfInBounds_toArray, List.set_cons_zero, List.set_cons_succ]
        refine wpAnyH_ready (rs := [12]) (by kernel_rfl) (by simp) ?_
        refine AllReadyH.cons (o := ⟨_, _, _, _, _, _⟩) rfl (fun K hK => ?_) AllReadyH.nil
        refine step_m rfl ?_
        refine wp_store_at _ _ _ rfl _ _ rfl (.agg (List.toArray _)) rfl ?_
        (first | refine StoreAt.row HM.out 0 rfl (Nat.le_of_ble_eq_true rfl) (by kernel_rfl) rfl ?_ | refine StoreAt.row HM.out 1 rfl (Nat.le_of_ble_eq_true rfl) (by kernel_rfl) rfl ?_ | refine StoreAt.row HM.out 2 rfl (Nat.le_of_ble_eq_true rfl) (by kernel_rfl) rfl ?_)
        intro w9 new hnew hm
        simp only [setAll, overlay] at hnew
        subst hnew
        simp only [List.set_cons_zero, List.set_cons_succ] at hm
        clear HM
        have HM := Lib.hid hm
        clear hm
        refine hK.out _ _ ?_ (fun hHeld => ?_)
        · first | exact HM.out.at_ 0 rfl | exact HM.out.at_ 1 rfl | exact HM.out.at_ 2 rfl | exact HM.out.at_ 3 rfl
        clear hK K
        try simp only [Act.put, List.setIfInBounds_toArray, List.set_cons_zero, List.set_cons_succ]
        refine wpAnyH_ready (rs := [13]) (by kernel_rfl) (by simp) ?_
        refine AllReadyH.cons (o := ⟨_, _, _, _, _, _⟩) rfl (fun K hK => ?_) AllReadyH.nil
        refine step_m rfl ?_
        refine wp_store_at _ _ _ rfl _ _ rfl (.agg (List.toArray _)) rfl ?_
        (first | refine StoreAt.row HM.out 0 rfl (Nat.le_of_ble_eq_true rfl) (by kernel_rfl) rfl ?_ | refine StoreAt.row HM.out 1 rfl (Nat.le_of_ble_eq_true rfl) (by kernel_rfl) rfl ?_ | refine StoreAt.row HM.out 2 rfl (Nat.le_of_ble_eq_true rfl) (by kernel_rfl) rfl ?_)
        intro w9 new hnew hm
        simp only [setAll, overlay] at hnew
        subst hnew
        simp only [List.set_cons_zero, List.set_cons_succ] at hm
        clear HM
        have HM := Lib.hid hm
        clear hm
        refine hK.out _ _ ?_ (fun hHeld => ?_)
        · first | exact HM.out.at_ 0 rfl | exact HM.out.at_ 1 rfl | exact HM.out.at_ 2 rfl | exact HM.out.at_ 3 rfl
        clear hK K
        try simp only [Act.put, List.setIfInBounds_toArray, List.set_cons_zero, List.set_cons_succ]
        refine wpAnyH_done (by kernel_rfl) ?_ _
        refine NoPanic.normal ?_
        go_wp2_with fail
        go_meet
        exact ⟨_, _, _, rfl, rfl, rfl, Lib.hid (by first | exact HM.out | exact HM.out.swap | exact HM.out.deep | exact HM.out.swap.deep | exact HM.out.deep.swap | exact HM.out.swap.deep.swap)⟩
      · refine step_m rfl (wp_alloc_ma 53 rfl HM.out [.int .i64 0, .int .i64 0, .int .i64 0] (by kernel_rfl) ?_)
        intro w9 k9 hm
        clear HM
        have HM := Lib.hid hm
        clear hm
        refine hK.out _ _ ?_ (fun hHeld => ?_)
        · first | exact HM.out.at_ 0 rfl | exact HM.out.at_ 1 rfl | exact HM.out.at_ 2 rfl | exact HM.out.at_ 3 rfl
        clear hK K
        try simp only [Act.put, List.setIfInBounds_toArray, List.set_cons_zero, List.set_cons_succ]
        refine wpAnyH_ready (rs := [8]) (by kernel_rfl) (by simp) ?_
        refine AllReadyH.cons (o := ⟨_, _, _, _, _, _⟩) rfl (fun K hK => ?_) AllReadyH.nil
        refine step_m rfl (wp_alloc_ma 51 rfl HM.out [.int .i64 0, .int .i64 0, .int .i64 0] (by kernel_rfl) ?_)
        intro w9 k9 hm
        clear HM
        have HM := Lib.hid hm
        clear hm
        refine hK.out _ _ ?_ (fun hHeld => ?_)
        · first | exact HM.out.at_ 0 rfl | exact HM.out.at_ 1 rfl | exact HM.out.at_ 2 rfl | exact HM.out.at_ 3 rfl
        clear hK K
        try simp only [Act.put, List.setIfInBounds_toArray, List.set_cons_zero, List.set_cons_succ]
        refine wpAnyH_ready (rs := [11]) (by kernel_rfl) (by simp) ?_
        refine AllReadyH.cons (o := ⟨_, _, _, _, _, _⟩) rfl (fun K hK => ?_) AllReadyH.nil
        refine step_m rfl ?_
        refine wp_store_at _ _ _ rfl _ _ rfl (.agg (List.toArray _)) rfl ?_
        (first | refine StoreAt.row HM.out 0 rfl (Nat.le_of_ble_eq_true rfl) (by kernel_rfl) rfl ?_ | refine StoreAt.row HM.out 1 rfl (Nat.le_of_ble_eq_true rfl) (by kernel_rfl) rfl ?_ | refine StoreAt.row HM.out 2 rfl (Nat.le_of_ble_eq_true rfl) (by kernel_rfl) rfl ?_)
        intro w9 new hnew hm
        simp only [setAll, overlay] at hnew
        subst hnew
        simp only [List.set_cons_zero, List.set_cons_succ] at hm
        clear HM
        have HM := Lib.hid hm
        clear hm
        refine hK.out _ _ ?_ (fun hHeld => ?_)
        · first | exact HM.out.at_ 0 rfl | exact HM.out.at_ 1 rfl | exact HM.out.at_ 2 rfl | exact HM.out.at_ 3 rfl
        clear hK K
        try simp only [Act.put, List.setIfInBounds_toArray, List.set_cons_zero, List.set_cons_succ]
        refine wpAnyH_ready (rs := [12]) (by kernel_rfl) (by simp) ?_
        refine AllReadyH.cons (o := ⟨_, _, _, _, _, _⟩) rfl (fun K hK => ?_) AllReadyH.nil
        refine step_m rfl ?_
        refine wp_store_at _ _ _ rfl _ _ rfl (.agg (List.toArray _)) rfl ?_
        (first | refine StoreAt.row HM.out 0 rfl (Nat.le_of_ble_eq_true rfl) (by kernel_rfl) rfl ?_ | refine StoreAt.row HM.out 1 rfl (Nat.le_of_ble_eq_true rfl) (by kernel_rfl) rfl ?_ | refine StoreAt.row HM.out 2 rfl (Nat.le_of_ble_eq_true rfl) (by kernel_rfl) rfl ?_)
        intro w9 new hnew hm
        simp only [setAll, overlay] at hnew
        subst hnew
        simp only [List.set_cons_zero, List.set_cons_succ] at hm
        clear HM
        have HM := Lib.hid hm
        clear hm
        refine hK.out _ _ ?_ (fun hHeld => ?_)
        · first | exact HM.out.at_ 0 rfl | exact HM.out.at_ 1 rfl | exact HM.out.at_ 2 rfl | exact HM.out.at_ 3 rfl
        clear hK K
        try simp only [Act.put, List.setIfInBounds_toArray, List.set_cons_zero, List.set_cons_succ]
        refine wpAnyH_ready (rs := [13]) (by kernel_rfl) (by simp) ?_
        refine AllReadyH.cons (o := ⟨_, _, _, _, _, _⟩) rfl (fun K hK => ?_) AllReadyH.nil
        refine step_m rfl ?_
        refine wp_store_at _ _ _ rfl _ _ rfl (.agg (List.toArray _)) rfl ?_
        (first | refine StoreAt.row HM.out 0 rfl (Nat.le_of_ble_eq_true rfl) (by kernel_rfl) rfl ?_ | refine StoreAt.row HM.out 1 rfl (Nat.le_of_ble_eq_true rfl) (by kernel_rfl) rfl ?_ | refine StoreAt.row HM.out 2 rfl (Nat.le_of_ble_eq_true rfl) (by kernel_rfl) rfl ?_)
        intro w9 new hnew hm
        simp only [setAll, overlay] at hnew
        subst hnew
        simp only [List.set_cons_zero, List.set_cons_succ] at hm
        clear HM
        have HM := Lib.hid hm
        clear hm
        refine hK.out _ _ ?_ (fun hHeld => ?_)
        · first | exact HM.out.at_ 0 rfl | exact HM.out.at_ 1 rfl | exact HM.out.at_ 2 rfl | exact HM.out.at_ 3 rfl
        clear hK K
        try simp only [Act.put, List.setIfInBounds_toArray, List.set_cons_zero, List.set_cons_succ]
        refine wpAnyH_done (by kernel_rfl) ?_ _
        refine NoPanic.normal ?_
        go_wp2_with fail
        go_meet
        exact ⟨_, _, _, rfl, rfl, rfl, Lib.hid (by first | exact HM.out | exact HM.out.swap | exact HM.out.deep | exact HM.out.swap.deep | exact HM.out.deep.swap | exact HM.out.swap.deep.swap)⟩
  clear HM
  obtain ⟨g3, g4, g5, rfl, rfl, rfl, HM⟩ := hcut
  have hw := HW.out
  simp only at hw
  clear HW
  rcases hw with ⟨rfl, hw⟩ | ⟨rfl, rfl | rfl | rfl | rfl | rfl | rfl | rfl⟩
  · have hw1 : 1 ≤ ck ∧ ck ≤ 4 := by omega
    rcases hw with rfl | rfl | rfl | rfl
    all_goals
      go_wp2_with (first | (with_reducible refine wpl_bslice (d := some 39) (fun K hK => ?_); refine wp_bslice _ _ _ 28 [.slice (some ⟨k18, 0, none⟩) 0 0, .slice (some ⟨k25, 0, none⟩) 3 3, .slice (some ⟨k28, 0, none⟩) 1 1, .slice (some ⟨k35, 0, none⟩) 3 3, .slice (some ⟨k38, 0, none⟩) 1 1] rfl HM.out (by intro W; go_simp) ?_; intro w9 k39 hm; clear HM; have HM := Lib.hid hm; clear hm; refine hK _ _ ?_; clear hK K; try simp only [Act.put, List.setIfInBounds_toArray, List.set_cons_zero, List.set_cons_succ]) | (with_reducible refine wpl_bslice (d := some 18) (fun K hK => ?_); refine wp_bslice _ _ _ 3 [] rfl HM.out (by intro W; go_simp) ?_; intro w9 k18 hm; clear HM; have HM := Lib.hid hm; clear hm; refine hK _ _ ?_; clear hK K; try simp only [Act.put, List.setIfInBounds_toArray, List.set_cons_zero, List.set_cons_succ]) | (with_reducible refine wpl_bslice (d := some 25) (fun K hK => ?_); refine wp_bslice _ _ _ 3 [.int .i64 pi, .int .i64 px, .int .i64 py] rfl HM.out (by intro W; go_simp) ?_; intro w9 k25 hm; clear HM; have HM := Lib.hid hm; clear hm; refine hK _ _ ?_; clear hK K; try simp only [Act.put, List.setIfInBounds_toArray, List.set_cons_zero, List.set_cons_succ]) | (with_reducible refine wpl_bslice (d := some 28) (fun K hK => ?_); refine wp_bslice _ _ _ 3 [.int .i64 pi] rfl HM.out (by intro W; go_simp) ?_; intro w9 k28 hm; clear HM; have HM := Lib.hid hm; clear hm; refine hK _ _ ?_; clear hK K; try simp only [Act.put, List.setIfInBounds_toArray, List.set_cons_zero, List.set_cons_succ]) | (with_reducible refine wpl_bslice (d := some 35) (fun K hK => ?_); refine wp_bslice _ _ _ 3 [.int .i64 si, .int .i64 sl, .int .i64 sh] rfl HM.out (by intro W; go_simp) ?_; intro w9 k35 hm; clear HM; have HM := Lib.hid hm; clear hm; refine hK _ _ ?_; clear hK K; try simp only [Act.put, List.setIfInBounds_toArray, List.set_cons_zero, List.set_cons_succ]) | (with_reducible refine wpl_bslice (d := some 38) (fun K hK => ?_); refine wp_bslice _ _ _ 3 [.int .i64 si] rfl HM.out (by intro W; go_simp) ?_; intro w9 k38 hm; clear HM; have HM := Lib.hid hm; clear hm; refine hK _ _ ?_; clear hK K; try simp only [Act.put, List.setIfInBounds_toArray, List.set_cons_zero, List.set_cons_succ]) | (with_reducible refine wpl_load (ty := 57) (fun K hK => ?_); refine wp_load_at _ _ rfl _ _ rfl ?_; (first | refine LoadAt.row (n := 18) HM.out 0 rfl (by kernel_rfl) (by kernel_rfl) (Nat.le_of_ble_eq_true rfl) ?_ | refine LoadAt.row (n := 18) HM.out 1 rfl (by kernel_rfl) (by kernel_rfl) (Nat.le_of_ble_eq_true rfl) ?_ | refine LoadAt.row (n := 18) HM.out 2 rfl (by kernel_rfl) (by kernel_rfl) (Nat.le_of_ble_eq_true rfl) ?_ | refine LoadAt.row (n := 18) HM.out 3 rfl (by kernel_rfl) (by kernel_rfl) (Nat.le_of_ble_eq_true rfl) ?_ | refine LoadAt.row (n := 18) HM.out 4 rfl (by kernel_rfl) (by kernel_rfl) (Nat.le_of_ble_eq_true rfl) ?_ | refine LoadAt.row (n := 18) HM.out 5 rfl (by kernel_rfl) (by kernel_rfl) (Nat.le_of_ble_eq_true rfl) ?_ | refine LoadAt.row (n := 18) HM.out 6 rfl (by kernel_rfl) (by kernel_rfl) (Nat.le_of_ble_eq_true rfl) ?_ | refine LoadAt.row (n := 18) HM.out 7 rfl (by kernel_rfl) (by kernel_rfl) (Nat.le_of_ble_eq_true rfl) ?_ | refine LoadAt.row (n := 18) HM.out 8 rfl (by kernel_rfl) (by kernel_rfl) (Nat.le_of_ble_eq_true rfl) ?_ | refine LoadAt.row (n := 18) HM.out 9 rfl (by kernel_rfl) (by kernel_rfl) (Nat.le_of_ble_eq_true rfl) ?_); intro r hr; simp only [List.drop_zero, List.drop_succ_cons, List.take_zero, List.take_succ_cons, List.take_nil] at hr; subst hr; refine hK _ _ ?_; clear hK K; try simp only [Act.put, List.setIfInBounds_toArray, List.set_cons_zero, List.set_cons_succ]) | (with_reducible refine wpl_load (ty := 27) (fun K hK => ?_); refine wp_load_at _ _ rfl _ _ rfl ?_; (first | refine LoadAt.row (n := 10) HM.out 0 rfl (by kernel_rfl) (by kernel_rfl) (Nat.le_of_ble_eq_true rfl) ?_ | refine LoadAt.row (n := 10) HM.out 1 rfl (by kernel_rfl) (by kernel_rfl) (Nat.le_of_ble_eq_true rfl) ?_ | refine LoadAt.row (n := 10) HM.out 2 rfl (by kernel_rfl) (by kernel_rfl) (Nat.le_of_ble_eq_true rfl) ?_ | refine LoadAt.row (n := 10) HM.out 3 rfl (by kernel_rfl) (by kernel_rfl) (Nat.le_of_ble_eq_true rfl) ?_ | refine LoadAt.row (n := 10) HM.out 4 rfl (by kernel_rfl) (by kernel_rfl) (Nat.le_of_ble_eq_true rfl) ?_ | refine LoadAt.row (n := 10) HM.out 5 rfl (by kernel_rfl) (by kernel_rfl) (Nat.le_of_ble_eq_true rfl) ?_ | refine LoadAt.row (n := 10) HM.out 6 rfl (by kernel_rfl) (by kernel_rfl) (Nat.le_of_ble_eq_true rfl) ?_ | refine LoadAt.row (n := 10) HM.out 7 rfl (by kernel_rfl) (by kernel_rfl) (Nat.le_of_ble_eq_true rfl) ?_ | refine LoadAt.row (n := 10) HM.out 8 rfl (by kernel_rfl) (by kernel_rfl) (Nat.le_of_ble_eq_true rfl) ?_ | refine LoadAt.row (n := 10) HM.out 9 rfl (by kernel_rfl) (by kernel_rfl) (Nat.le_of_ble_eq_true rfl) ?_); intro r hr; simp only [List.drop_zero, List.drop_succ_cons, List.take_zero, List.take_succ_cons, List.take_nil] at hr; subst hr; refine hK _ _ ?_; clear hK K; try simp only [Act.put, List.setIfInBounds_toArray, List.set_cons_zero, List.set_cons_succ]) | (with_reducible refine wpl_load (ty := 51) (fun K hK => ?_); refine wp_load_at _ _ rfl _ _ rfl ?_; (first | refine LoadAt.row (n := 3) HM.out 0 rfl (by kernel_rfl) (by kernel_rfl) (Nat.le_of_ble_eq_true rfl) ?_ | refine LoadAt.row (n := 3) HM.out 1 rfl (by kernel_rfl) (by kernel_rfl) (Nat.le_of_ble_eq_true rfl) ?_ | refine LoadAt.row (n := 3) HM.out 2 rfl (by kernel_rfl) (by kernel_rfl) (Nat.le_of_ble_eq_true rfl) ?_ | refine LoadAt.row (n := 3) HM.out 3 rfl (by kernel_rfl) (by kernel_rfl) (Nat.le_of_ble_eq_true rfl) ?_ | refine LoadAt.row (n := 3) HM.out 4 rfl (by kernel_rfl) (by kernel_rfl) (Nat.le_of_ble_eq_true rfl) ?_ | refine LoadAt.row (n := 3) HM.out 5 rfl (by kernel_rfl) (by kernel_rfl) (Nat.le_of_ble_eq_true rfl) ?_ | refine LoadAt.row (n := 3) HM.out 6 rfl (by kernel_rfl) (by kernel_rfl) (Nat.le_of_ble_eq_true rfl) ?_ | refine LoadAt.row (n := 3) HM.out 7 rfl (by kernel_rfl) (by kernel_rfl) (Nat.le_of_ble_eq_true rfl) ?_ | refine LoadAt.row (n := 3) HM.out 8 rfl (by kernel_rfl) (by kernel_rfl) (Nat.le_of_ble_eq_true rfl) ?_ | refine LoadAt.row (n := 3) HM.out 9 rfl (by kernel_rfl) (by kernel_rfl) (Nat.le_of_ble_eq_true rfl) ?_); intro r hr; simp only [List.drop_zero, List.drop_succ_cons, List.take_zero, List.take_succ_cons, List.take_nil] at hr; subst hr; refine hK _ _ ?_; clear hK K; try simp only [Act.put, List.setIfInBounds_toArray, List.set_cons_zero, List.set_cons_succ]) | (with_reducible refine wpl_load (ty := 53) (fun K hK => ?_); refine wp_load_at _ _ rfl _ _ rfl ?_; (first | refine LoadAt.row (n := 3) HM.out 0 rfl (by kernel_rfl) (by kernel_rfl) (Nat.le_of_ble_eq_true rfl) ?_ | refine LoadAt.row (n := 3) HM.out 1 rfl (by kernel_rfl) (by kernel_rfl) (Nat.le_of_ble_eq_true rfl) ?_ | refine LoadAt.row (n := 3) HM.out 2 rfl (by kernel_rfl) (by kernel_rfl) (Nat.le_of_ble_eq_true rfl) ?_ | refine LoadAt.row (n := 3) HM.out 3 rfl (by kernel_rfl) (by kernel_rfl) (Nat.le_of_ble_eq_true rfl) ?_ | refine LoadAt.row (n := 3) HM.out 4 rfl (by kernel_rfl) (by kernel_rfl) (Nat.le_of_ble_eq_true rfl) ?_ | refine LoadAt.row (n := 3) HM.out 5 rfl (by kernel_rfl) (by kernel_rfl) (Nat.le_of_ble_eq_true rfl) ?_ | refine LoadAt.row (n := 3) HM.out 6 rfl (by kernel_rfl) (by kernel_rfl) (Nat.le_of_ble_eq_true rfl) ?_ | refine LoadAt.row (n := 3) HM.out 7 rfl (by kernel_rfl) (by kernel_rfl) (Nat.le_of_ble_eq_true rfl) ?_ | refine LoadAt.row (n := 3) HM.out 8 rfl (by kernel_rfl) (by kernel_rfl) (Nat.le_of_ble_eq_true rfl) ?_ | refine LoadAt.row (n := 3) HM.out 9 rfl (by kernel_rfl) (by kernel_rfl) (Nat.le_of_ble_eq_true rfl) ?_); intro r hr; simp only [List.drop_zero, List.drop_succ_cons, List.take_zero, List.take_succ_cons, List.take_nil] at hr; subst hr; refine hK _ _ ?_; clear hK K; try simp only [Act.put, List.setIfInBounds_toArray, List.set_cons_zero, List.set_cons_succ]) | (with_reducible refine wpl_load (ty := 23) (fun K hK => ?_); refine wp_load_at _ _ rfl _ _ rfl ?_; (first | refine LoadAt.row (n := 4) HM.out 0 rfl (by kernel_rfl) (by kernel_rfl) (Nat.le_of_ble_eq_true rfl) ?_ | refine LoadAt.row (n := 4) HM.out 1 rfl (by kernel_rfl) (by kernel_rfl) (Nat.le_of_ble_eq_true rfl) ?_ | refine LoadAt.row (n := 4) HM.out 2 rfl (by kernel_rfl) (by kernel_rfl) (Nat.le_of_ble_eq_true rfl) ?_ | refine LoadAt.row (n := 4) HM.out 3 rfl (by kernel_rfl) (by kernel_rfl) (Nat.le_of_ble_eq_true rfl) ?_ | refine LoadAt.row (n := 4) HM.out 4 rfl (by kernel_rfl) (by kernel_rfl) (Nat.le_of_ble_eq_true rfl) ?_ | refine LoadAt.row (n := 4) HM.out 5 rfl (by kernel_rfl) (by kernel_rfl) (Nat.le_of_ble_eq_true rfl) ?_ | refine LoadAt.row (n := 4) HM.out 6 rfl (by kernel_rfl) (by kernel_rfl) (Nat.le_of_ble_eq_true rfl) ?_ | refine LoadAt.row (n := 4) HM.out 7 rfl (by kernel_rfl) (by kernel_rfl) (Nat.le_of_ble_eq_true rfl) ?_ | refine LoadAt.row (n := 4) HM.out 8 rfl (by kernel_rfl) (by kernel_rfl) (Nat.le_of_ble_eq_true rfl) ?_ | refine LoadAt.row (n := 4) HM.out 9 rfl (by kernel_rfl) (by kernel_rfl) (Nat.le_of_ble_eq_true rfl) ?_); intro r hr; simp only [List.drop_zero, List.drop_succ_cons, List.take_zero, List.take_succ_cons, List.take_nil] at hr; subst hr; refine hK _ _ ?_; clear hK K; try simp only [Act.put, List.setIfInBounds_toArray, List.set_cons_zero, List.set_cons_succ]) | (with_reducible refine wpl_load (ty := 25) (fun K hK => ?_); refine wp_load_at _ _ rfl _ _ rfl ?_; (first | refine LoadAt.row (n := 3) HM.out 0 rfl (by kernel_rfl) (by kernel_rfl) (Nat.le_of_ble_eq_true rfl) ?_ | refine LoadAt.row (n := 3) HM.out 1 rfl (by kernel_rfl) (by kernel_rfl) (Nat.le_of_ble_eq_true rfl) ?_ | refine LoadAt.row (n := 3) HM.out 2 rfl (by kernel_rfl) (by kernel_rfl) (Nat.le_of_ble_eq_true rfl) ?_ | refine LoadAt.row (n := 3) HM.out 3 rfl (by kernel_rfl) (by kernel_rfl) (Nat.le_of_ble_eq_true rfl) ?_ | refine LoadAt.row (n := 3) HM.out 4 rfl (by kernel_rfl) (by kernel_rfl) (Nat.le_of_ble_eq_true rfl) ?_ | refine LoadAt.row (n := 3) HM.out 5 rfl (by kernel_rfl) (by kernel_rfl) (Nat.le_of_ble_eq_true rfl) ?_ | refine LoadAt.row (n := 3) HM.out 6 rfl (by kernel_rfl) (by kernel_rfl) (Nat.le_of_ble_eq_true rfl) ?_ | refine LoadAt.row (n := 3) HM.out 7 rfl (by kernel_rfl) (by kernel_rfl) (Nat.le_of_ble_eq_true rfl) ?_ | refine LoadAt.row (n := 3) HM.out 8 rfl (by kernel_rfl) (by kernel_rfl) (Nat.le_of_ble_eq_true rfl) ?_ | refine LoadAt.row (n := 3) HM.out 9 rfl (by kernel_rfl) (by kernel_rfl) (Nat.le_of_ble_eq_true rfl) ?_); intro r hr; simp only [List.drop_zero, List.drop_succ_cons, List.take_zero, List.take_succ_cons, List.take_nil] at hr; subst hr; refine hK _ _ ?_; clear hK K; try simp only [Act.put, List.setIfInBounds_toArray, List.set_cons_zero, List.set_cons_succ]) | (with_reducible refine wpl_load (fun K hK => ?_); refine wp_load_at _ _ rfl _ _ rfl ?_; (first | refine LoadAt.one HM.out 0 rfl (by kernel_rfl) (Nat.le_of_ble_eq_true rfl) ?_ | refine LoadAt.one HM.out 1 rfl (by kernel_rfl) (Nat.le_of_ble_eq_true rfl) ?_ | refine LoadAt.one HM.out 2 rfl (by kernel_rfl) (Nat.le_of_ble_eq_true rfl) ?_ | refine LoadAt.one HM.out 3 rfl (by kernel_rfl) (Nat.le_of_ble_eq_true rfl) ?_ | refine LoadAt.one HM.out 4 rfl (by kernel_rfl) (Nat.le_of_ble_eq_true rfl) ?_ | refine LoadAt.one HM.out 5 rfl (by kernel_rfl) (Nat.le_of_ble_eq_true rfl) ?_ | refine LoadAt.one HM.out 6 rfl (by kernel_rfl) (Nat.le_of_ble_eq_true rfl) ?_ | refine LoadAt.one HM.out 7 rfl (by kernel_rfl) (Nat.le_of_ble_eq_true rfl) ?_ | refine LoadAt.one HM.out 8 rfl (by kernel_rfl) (Nat.le_of_ble_eq_true rfl) ?_ | refine LoadAt.one HM.out 9 rfl (by kernel_rfl) (Nat.le_of_ble_eq_true rfl) ?_); intro v hv; simp only [List.getElem?_cons_zero, List.getElem?_cons_succ, Option.some.injEq] at hv; subst hv; refine hK _ _ ?_; clear hK K; try simp only [Act.put, List.setIfInBounds_toArray, List.set_cons_zero, List.set_cons_succ]) | (with_reducible refine wpl_store (ty := 57) (fun K hK => ?_); refine wp_store_at _ _ _ rfl _ _ rfl (.agg (List.toArray _)) rfl ?_; (first | refine StoreAt.row HM.out 0 rfl (Nat.le_of_ble_eq_true rfl) (by kernel_rfl) rfl ?_ | refine StoreAt.row HM.out 1 rfl (Nat.le_of_ble_eq_true rfl) (by kernel_rfl) rfl ?_ | refine StoreAt.row HM.out 2 rfl (Nat.le_of_ble_eq_true rfl) (by kernel_rfl) rfl ?_ | refine StoreAt.row HM.out 3 rfl (Nat.le_of_ble_eq_true rfl) (by kernel_rfl) rfl ?_ | refine StoreAt.row HM.out 4 rfl (Nat.le_of_ble_eq_true rfl) (by kernel_rfl) rfl ?_ | refine StoreAt.row HM.out 5 rfl (Nat.le_of_ble_eq_true rfl) (by kernel_rfl) rfl ?_ | refine StoreAt.row HM.out 6 rfl (Nat.le_of_ble_eq_true rfl) (by kernel_rfl) rfl ?_ | refine StoreAt.row HM.out 7 rfl (Nat.le_of_ble_eq_true rfl) (by kernel_rfl) rfl ?_ | refine StoreAt.row HM.out 8 rfl (Nat.le_of_ble_eq_true rfl) (by kernel_rfl) rfl ?_ | refine StoreAt.row HM.out 9 rfl (Nat.le_of_ble_eq_true rfl) (by kernel_rfl) rfl ?_); intro w9 new hnew hm; simp only [setAll, overlay] at hnew; subst hnew; simp only [List.set_cons_zero, List.set_cons_succ] at hm; clear HM; have HM := Lib.hid hm; clear hm; refine hK _ _ ?_; clear hK K; try simp only [Act.put, List.setIfInBounds_toArray, List.set_cons_zero, List.set_cons_succ]) | (with_reducible refine wpl_store (ty := 27) (fun K hK => ?_); refine wp_store_at _ _ _ rfl _ _ rfl (.agg (List.toArray _)) rfl ?_; (first | refine StoreAt.row HM.out 0 rfl (Nat.le_of_ble_eq_true rfl) (by kernel_rfl) rfl ?_ | refine StoreAt.row HM.out 1 rfl (Nat.le_of_ble_eq_true rfl) (by kernel_rfl) rfl ?_ | refine StoreAt.row HM.out 2 rfl (Nat.le_of_ble_eq_true rfl) (by kernel_rfl) rfl ?_ | refine StoreAt.row HM.out 3 rfl (Nat.le_of_ble_eq_true rfl) (by kernel_rfl) rfl ?_ | refine StoreAt.row HM.out 4 rfl (Nat.le_of_ble_eq_true rfl) (by kernel_rfl) rfl ?_ | refine StoreAt.row HM.out 5 rfl (Nat.le_of_ble_eq_true rfl) (by kernel_rfl) rfl ?_ | refine StoreAt.row HM.out 6 rfl (Nat.le_of_ble_eq_true rfl) (by kernel_rfl) rfl ?_ | refine StoreAt.row HM.out 7 rfl (Nat.le_of_ble_eq_true rfl) (by kernel_rfl) rfl ?_ | refine StoreAt.row HM.out 8 rfl (Nat.le_of_ble_eq_true rfl) (by kernel_rfl) rfl ?_ | refine StoreAt.row HM.out 9 rfl (Nat.le_of_ble_eq_true rfl) (by kernel_rfl) rfl ?_); intro w9 new hnew hm; simp only [setAll, overlay] at hnew; subst hnew; simp only [List.set_cons_zero, List.set_cons_succ] at hm; clear HM; have HM := Lib.hid hm; clear hm; refine hK _ _ ?_; clear hK K; try simp only [Act.put, List.setIfInBounds_toArray, List.set_cons_zero, List.set_cons_succ]) | (with_reducible refine wpl_store (ty := 51) (fun K hK => ?_); refine wp_store_at _ _ _ rfl _ _ rfl (.agg (List.toArray _)) rfl ?_; (first | refine StoreAt.row HM.out 0 rfl (Nat.le_of_ble_eq_true rfl) (by kernel_rfl) rfl ?_ | refine StoreAt.row HM.out 1 rfl (Nat.le_of_ble_eq_true rfl) (by kernel_rfl) rfl ?_ | refine StoreAt.row HM.out 2 rfl (Nat.le_of_ble_eq_true rfl) (by kernel_rfl) rfl ?_ | refine StoreAt.row HM.out 3 rfl (Nat.le_of_ble_eq_true rfl) (by kernel_rfl) rfl ?_ | refine StoreAt.row HM.out 4 rfl (Nat.le_of_ble_eq_true rfl) (by kernel_rfl) rfl ?_ | refine StoreAt.row HM.out 5 rfl (Nat.le_of_ble_eq_true rfl) (by kernel_rfl) rfl ?_ | refine StoreAt.row HM.out 6 rfl (Nat.le_of_ble_eq_true rfl) (by kernel_rfl) rfl ?_ | refine StoreAt.row HM.out 7 rfl (Nat.le_of_ble_eq_true rfl) (by kernel_rfl) rfl ?_ | refine StoreAt.row HM.out 8 rfl (Nat.le_of_ble_eq_true rfl) (by kernel_rfl) rfl ?_ | refine StoreAt.row HM.out 9 rfl (Nat.le_of_ble_eq_true rfl) (by kernel_rfl) rfl ?_); intro w9 new hnew hm; simp only [setAll, overlay] at hnew; subst hnew; simp only [List.set_cons_zero, List.set_cons_succ] at hm; clear HM; have HM := Lib.hid hm; clear hm; refine hK _ _ ?_; clear hK K; try simp only [Act.put, List.setIfInBounds_toArray, List.set_cons_zero, List.set_cons_succ]) | (with_reducible refine wpl_store (ty := 53) (fun K hK => ?_); refine wp_store_at _ _ _ rfl _ _ rfl (.agg (List.toArray _)) rfl ?_; (first | refine StoreAt.row HM.out 0 rfl (Nat.le_of_ble_eq_true rfl) (by kernel_rfl) rfl ?_ | refine StoreAt.row HM.out 1 rfl (Nat.le_of_ble_eq_true rfl) (by kernel_rfl) rfl ?_ | refine StoreAt.row HM.out 2 rfl (Nat.le_of_ble_eq_true rfl) (by kernel_rfl) rfl ?_ | refine StoreAt.row HM.out 3 rfl (Nat.le_of_ble_eq_true rfl) (by kernel_rfl) rfl ?_ | refine StoreAt.row HM.out 4 rfl (Nat.le_of_ble_eq_true rfl) (by kernel_rfl) rfl ?_ | refine StoreAt.row HM.out 5 rfl (Nat.le_of_ble_eq_true rfl) (by kernel_rfl) rfl ?_ | refine StoreAt.row HM.out 6 rfl (Nat.le_of_ble_eq_true rfl) (by kernel_rfl) rfl ?_ | refine StoreAt.row HM.out 7 rfl (Nat.le_of_ble_eq_true rfl) (by kernel_rfl) rfl ?_ | refine StoreAt.row HM.out 8 rfl (Nat.le_of_ble_eq_true rfl) (by kernel_rfl) rfl ?_ | refine StoreAt.row HM.out 9 rfl (Nat.le_of_ble_eq_true rfl) (by kernel_rfl) rfl ?_); intro w9 new hnew hm; simp only [setAll, overlay] at hnew; subst hnew; simp only [List.set_cons_zero, List.set_cons_succ] at hm; clear HM; have HM := Lib.hid hm; clear hm; refine hK _ _ ?_; clear hK K; try simp only [Act.put, List.setIfInBounds_toArray, List.set_cons_zero, List.set_cons_succ]) | (with_reducible refine wpl_store (ty := 23) (fun K hK => ?_); refine wp_store_at _ _ _ rfl _ _ rfl (.agg (List.toArray _)) rfl ?_; (first | refine StoreAt.row HM.out 0 rfl (Nat.le_of_ble_eq_true rfl) (by kernel_rfl) rfl ?_ | refine StoreAt.row HM.out 1 rfl (Nat.le_of_ble_eq_true rfl) (by kernel_rfl) rfl ?_ | refine StoreAt.row HM.out 2 rfl (Nat.le_of_ble_eq_true rfl) (by kernel_rfl) rfl ?_ | refine StoreAt.row HM.out 3 rfl (Nat.le_of_ble_eq_true rfl) (by kernel_rfl) rfl ?_ | refine StoreAt.row HM.out 4 rfl (Nat.le_of_ble_eq_true rfl) (by kernel_rfl) rfl ?_ | refine StoreAt.row HM.out 5 rfl (Nat.le_of_ble_eq_true rfl) (by kernel_rfl) rfl ?_ | refine StoreAt.row HM.out 6 rfl (Nat.le_of_ble_eq_true rfl) (by kernel_rfl) rfl ?_ | refine StoreAt.row HM.out 7 rfl (Nat.le_of_ble_eq_true rfl) (by kernel_rfl) rfl ?_ | refine StoreAt.row HM.out 8 rfl (Nat.le_of_ble_eq_true rfl) (by kernel_rfl) rfl ?_ | refine StoreAt.row HM.out 9 rfl (Nat.le_of_ble_eq_true rfl) (by kernel_rfl) rfl ?_); intro w9 new hnew hm; simp only [setAll, overlay] at hnew; subst hnew; simp only [List.set_cons_zero, List.set_cons_succ] at hm; clear HM; have HM := Lib.hid hm; clear hm; refine hK _ _ ?_; clear hK K; try simp only [Act.put, List.setIfInBounds_toArray, List.set_cons_zero, List.set_cons_succ]) | (with_reducible refine wpl_store (ty := 25) (fun K hK => ?_); refine wp_store_at _ _ _ rfl _ _ rfl (.agg (List.toArray _)) rfl ?_; (first | refine StoreAt.row HM.out 0 rfl (Nat.le_of_ble_eq_true rfl) (by kernel_rfl) rfl ?_ | refine StoreAt.row HM.out 1 rfl (Nat.le_of_ble_eq_true rfl) (by kernel_rfl) rfl ?_ | refine StoreAt.row HM.out 2 rfl (Nat.le_of_ble_eq_true rfl) (by kernel_rfl) rfl ?_ | refine StoreAt.row HM.out 3 rfl (Nat.le_of_ble_eq_true rfl) (by kernel_rfl) rfl ?_ | refine StoreAt.row HM.out 4 rfl (Nat.le_of_ble_eq_true rfl) (by kernel_rfl) rfl ?_ | refine StoreAt.row HM.out 5 rfl (Nat.le_of_ble_eq_true rfl) (by kernel_rfl) rfl ?_ | refine StoreAt.row HM.out 6 rfl (Nat.le_of_ble_eq_true rfl) (by kernel_rfl) rfl ?_ | refine StoreAt.row HM.out 7 rfl (Nat.le_of_ble_eq_true rfl) (by kernel_rfl) rfl ?_ | refine StoreAt.row HM.out 8 rfl (Nat.le_of_ble_eq_true rfl) (by kernel_rfl) rfl ?_ | refine StoreAt.row HM.out 9 rfl (Nat.le_of_ble_eq_true rfl) (by kernel_rfl) rfl ?_); intro w9 new hnew hm; simp only [setAll, overlay] at hnew; subst hnew; simp only [List.set_cons_zero, List.set_cons_succ] at hm; clear HM; have HM := Lib.hid hm; clear hm; refine hK _ _ ?_; clear hK K; try simp only [Act.put, List.setIfInBounds_toArray, List.set_cons_zero, List.set_cons_succ]) | (with_reducible refine wpl_store (ty := 3) (fun K hK => ?_); refine wp_store_at _ _ _ rfl _ _ rfl (.int _ _) rfl ?_; (first | refine StoreAt.one HM.out 0 rfl (Nat.le_of_ble_eq_true rfl) rfl (by kernel_rfl) rfl ?_ | refine StoreAt.one HM.out 1 rfl (Nat.le_of_ble_eq_true rfl) rfl (by kernel_rfl) rfl ?_ | refine StoreAt.one HM.out 2 rfl (Nat.le_of_ble_eq_true rfl) rfl (by kernel_rfl) rfl ?_ | refine StoreAt.one HM.out 3 rfl (Nat.le_of_ble_eq_true rfl) rfl (by kernel_rfl) rfl ?_ | refine StoreAt.one HM.out 4 rfl (Nat.le_of_ble_eq_true rfl) rfl (by kernel_rfl) rfl ?_ | refine StoreAt.one HM.out 5 rfl (Nat.le_of_ble_eq_true rfl) rfl (by kernel_rfl) rfl ?_ | refine StoreAt.one HM.out 6 rfl (Nat.le_of_ble_eq_true rfl) rfl (by kernel_rfl) rfl ?_ | refine StoreAt.one HM.out 7 rfl (Nat.le_of_ble_eq_true rfl) rfl (by kernel_rfl) rfl ?_ | refine StoreAt.one HM.out 8 rfl (Nat.le_of_ble_eq_true rfl) rfl (by kernel_rfl) rfl ?_ | refine StoreAt.one HM.out 9 rfl (Nat.le_of_ble_eq_true rfl) rfl (by kernel_rfl) rfl ?_); intro w9 new hnew hm; simp only [List.set_cons_zero, List.set_cons_succ] at hnew; subst hnew; simp only [List.set_cons_zero, List.set_cons_succ] at hm; clear HM; have HM := Lib.hid hm; clear hm; refine hK _ _ ?_; clear hK K; try simp only [Act.put, List.setIfInBounds_toArray, List.set_cons_zero, List.set_cons_succ]) | (with_reducible refine wpl_alloc (ty := 57) (fun K hK => ?_); refine wp_alloc_ma 57 rfl HM.out [.int .i64 0, .int .i64 0, .int .i64 0, .int .i64 0, .int .i64 0, .int .i64 0, .int .i64 0, .int .i64 0, .int .i64 0, .int .i64 0, .int .i64 0, .int .i64 0, .int .i64 0, .int .i64 0, .int .i64 0, .int .i64 0, .int .i64 0, .int .i64 0] (by kernel_rfl) ?_; intro w9 k9 hm; clear HM; have HM := Lib.hid hm; clear hm; refine hK _ _ ?_; clear hK K; try simp only [Act.put, List.setIfInBounds_toArray, List.set_cons_zero, List.set_cons_succ]) | (with_reducible refine wpl_box (ty := 57) (fun K hK => ?_); refine wp_box_ma _ _ rfl HM.out _ rfl ?_; intro w9 kb9 hm; clear HM; have HM := Lib.hid hm; clear hm; refine hK _ _ ?_; clear hK K; try simp only [Act.put, List.setIfInBounds_toArray, List.set_cons_zero, List.set_cons_succ]) | (with_reducible refine wpl_box (ty := 27) (fun K hK => ?_); refine wp_box_ma _ _ rfl HM.out _ rfl ?_; intro w9 kb9 hm; clear HM; have HM := Lib.hid hm; clear hm; refine hK _ _ ?_; clear hK K; try simp only [Act.put, List.setIfInBounds_toArray, List.set_cons_zero, List.set_cons_succ]) | (with_reducible refine wpl_box (ty := 51) (fun K hK => ?_); refine wp_box_ma _ _ rfl HM.out _ rfl ?_; intro w9 kb9 hm; clear HM; have HM := Lib.hid hm; clear hm; refine hK _ _ ?_; clear hK K; try simp only [Act.put, List.setIfInBounds_toArray, List.set_cons_zero, List.set_cons_succ]) | (with_reducible refine wpl_box (ty := 53) (fun K hK => ?_); refine wp_box_ma _ _ rfl HM.out _ rfl ?_; intro w9 kb9 hm; clear HM; have HM := Lib.hid hm; clear hm; refine hK _ _ ?_; clear hK K; try simp only [Act.put, List.setIfInBounds_toArray, List.set_cons_zero, List.set_cons_succ]) | (with_reducible refine wpl_box (ty := 23) (fun K hK => ?_); refine wp_box_ma _ _ rfl HM.out _ rfl ?_; intro w9 kb9 hm; clear HM; have HM := Lib.hid hm; clear hm; refine hK _ _ ?_; clear hK K; try simp only [Act.put, List.setIfInBounds_toArray, List.set_cons_zero, List.set_cons_succ]) | (with_reducible refine wpl_box (ty := 25) (fun K hK => ?_); refine wp_box_ma _ _ rfl HM.out _ rfl ?_; intro w9 kb9 hm; clear HM; have HM := Lib.hid hm; clear hm; refine hK _ _ ?_; clear hK K; try simp only [Act.put, List.setIfInBounds_toArray, List.set_cons_zero, List.set_cons_succ]) | (with_reducible refine wpl_box (ty := 3) (fun K hK => ?_); refine wp_box_m1 _ _ rfl HM.out (.int _ _) rfl rfl ?_; intro w9 kb9 hm; clear HM; have HM := Lib.hid hm; clear hm; refine hK _ _ ?_; clear hK K; try simp only [Act.put, List.setIfInBounds_toArray, List.set_cons_zero, List.set_cons_succ]) | fail)
      go_ret
    · exact ⟨_, rfl, HM.out.at_ 4 rfl, mem_fresh HM.out 4 rfl, HM.out.to_below (fun _ _ h => h)⟩
    · exact ⟨_, rfl, HM.out.at_ 3 rfl, mem_fresh HM.out 3 rfl, HM.out.to_below (fun _ _ h => h)⟩
    · exact ⟨_, rfl, HM.out.at_ 2 rfl, mem_fresh HM.out 2 rfl, HM.out.to_below (fun _ _ h => h)⟩
    · exact ⟨_, rfl, HM.out.at_ 1 rfl, mem_fresh HM.out 1 rfl, HM.out.to_below (fun _ _ h => h)⟩
  all_goals
    go_wp2_with (first | (with_reducible refine wpl_load (ty := 57) (fun K hK => ?_); refine wp_load_at _ _ rfl _ _ rfl ?_; (first | refine LoadAt.row (n := 18) HM.out 0 rfl (by kernel_rfl) (by kernel_rfl) (Nat.le_of_ble_eq_true rfl) ?_ | refine LoadAt.row (n := 18) HM.out 1 rfl (by kernel_rfl) (by kernel_rfl) (Nat.le_of_ble_eq_true rfl) ?_ | refine LoadAt.row (n := 18) HM.out 2 rfl (by kernel_rfl) (by kernel_rfl) (Nat.le_of_ble_eq_true rfl) ?_ | refine LoadAt.row (n := 18) HM.out 3 rfl (by kernel_rfl) (by kernel_rfl) (Nat.le_of_ble_eq_true rfl) ?_); intro r hr; simp only [List.drop_zero, List.drop_succ_cons, List.take_zero, List.take_succ_cons, List.take_nil] at hr; subst hr; refine hK _ _ ?_; clear hK K; try simp only [Act.put, List.setIfInBounds_toArray, List.set_cons_zero, List.set_cons_succ]) | (with_reducible refine wpl_load (ty := 27) (fun K hK => ?_); refine wp_load_at _ _ rfl _ _ rfl ?_; (first | refine LoadAt.row (n := 10) HM.out 0 rfl (by kernel_rfl) (by kernel_rfl) (Nat.le_of_ble_eq_true rfl) ?_ | refine LoadAt.row (n := 10) HM.out 1 rfl (by kernel_rfl) (by kernel_rfl) (Nat.le_of_ble_eq_true rfl) ?_ | refine LoadAt.row (n := 10) HM.out 2 rfl (by kernel_rfl) (by kernel_rfl) (Nat.le_of_ble_eq_true rfl) ?_ | refine LoadAt.row (n := 10) HM.out 3 rfl (by kernel_rfl) (by kernel_rfl) (Nat.le_of_ble_eq_true rfl) ?_); intro r hr; simp only [List.drop_zero, List.drop_succ_cons, List.take_zero, List.take_succ_cons, List.take_nil] at hr; subst hr; refine hK _ _ ?_; clear hK K; try simp only [Act.put, List.setIfInBounds_toArray, List.set_cons_zero, List.set_cons_succ]) | (with_reducible refine wpl_load (ty := 51) (fun K hK => ?_); refine wp_load_at _ _ rfl _ _ rfl ?_; (first | refine LoadAt.row (n := 3) HM.out 0 rfl (by kernel_rfl) (by kernel_rfl) (Nat.le_of_ble_eq_true rfl) ?_ | refine LoadAt.row (n := 3) HM.out 1 rfl (by kernel_rfl) (by kernel_rfl) (Nat.le_of_ble_eq_true rfl) ?_ | refine LoadAt.row (n := 3) HM.out 2 rfl (by kernel_rfl) (by kernel_rfl) (Nat.le_of_ble_eq_true rfl) ?_ | refine LoadAt.row (n := 3) HM.out 3 rfl (by kernel_rfl) (by kernel_rfl) (Nat.le_of_ble_eq_true rfl) ?_); intro r hr; simp only [List.drop_zero, List.drop_succ_cons, List.take_zero, List.take_succ_cons, List.take_nil] at hr; subst hr; refine hK _ _ ?_; clear hK K; try simp only [Act.put, List.setIfInBounds_toArray, List.set_cons_zero, List.set_cons_succ]) | (with_reducible refine wpl_load (ty := 53) (fun K hK => ?_); refine wp_load_at _ _ rfl _ _ rfl ?_; (first | refine LoadAt.row (n := 3) HM.out 0 rfl (by kernel_rfl) (by kernel_rfl) (Nat.le_of_ble_eq_true rfl) ?_ | refine LoadAt.row (n := 3) HM.out 1 rfl (by kernel_rfl) (by kernel_rfl) (Nat.le_of_ble_eq_true rfl) ?_ | refine LoadAt.row (n := 3) HM.out 2 rfl (by kernel_rfl) (by kernel_rfl) (Nat.le_of_ble_eq_true rfl) ?_ | refine LoadAt.row (n := 3) HM.out 3 rfl (by kernel_rfl) (by kernel_rfl) (Nat.le_of_ble_eq_true rfl) ?_); intro r hr; simp only [List.drop_zero, List.drop_succ_cons, List.take_zero, List.take_succ_cons, List.take_nil] at hr; subst hr; refine hK _ _ ?_; clear hK K; try simp only [Act.put, List.setIfInBounds_toArray, List.set_cons_zero, List.set_cons_succ]) | (with_reducible refine wpl_load (ty := 23) (fun K hK => ?_); refine wp_load_at _ _ rfl _ _ rfl ?_; (first | refine LoadAt.row (n := 4) HM.out 0 rfl (by kernel_rfl) (by kernel_rfl) (Nat.le_of_ble_eq_true rfl) ?_ | refine LoadAt.row (n := 4) HM.out 1 rfl (by kernel_rfl) (by kernel_rfl) (Nat.le_of_ble_eq_true rfl) ?_ | refine LoadAt.row (n := 4) HM.out 2 rfl (by kernel_rfl) (by kernel_rfl) (Nat.le_of_ble_eq_true rfl) ?_ | refine LoadAt.row (n := 4) HM.out 3 rfl (by kernel_rfl) (by kernel_rfl) (Nat.le_of_ble_eq_true rfl) ?_); intro r hr; simp only [List.drop_zero, List.drop_succ_cons, List.take_zero, List.take_succ_cons, List.take_nil] at hr; subst hr; refine hK _ _ ?_; clear hK K; try simp only [Act.put, List.setIfInBounds_toArray, List.set_cons_zero, List.set_cons_succ]) | (with_reducible refine wpl_load (ty := 25) (fun K hK => ?_); refine wp_load_at _ _ rfl _ _ rfl ?_; (first | refine LoadAt.row (n := 3) HM.out 0 rfl (by kernel_rfl) (by kernel_rfl) (Nat.le_of_ble_eq_true rfl) ?_ | refine LoadAt.row (n := 3) HM.out 1 rfl (by kernel_rfl) (by kernel_rfl) (Nat.le_of_ble_eq_true rfl) ?_ | refine LoadAt.row (n := 3) HM.out 2 rfl (by kernel_rfl) (by kernel_rfl) (Nat.le_of_ble_eq_true rfl) ?_ | refine LoadAt.row (n := 3) HM.out 3 rfl (by kernel_rfl) (by kernel_rfl) (Nat.le_of_ble_eq_true rfl) ?_); intro r hr; simp only [List.drop_zero, List.drop_succ_cons, List.take_zero, List.take_succ_cons, List.take_nil] at hr; subst hr; refine hK _ _ ?_; clear hK K; try simp only [Act.put, List.setIfInBounds_toArray, List.set_cons_zero, List.set_cons_succ]) | (with_reducible refine wpl_load (fun K hK => ?_); refine wp_load_at _ _ rfl _ _ rfl ?_; (first | refine LoadAt.one HM.out 0 rfl (by kernel_rfl) (Nat.le_of_ble_eq_true rfl) ?_ | refine LoadAt.one HM.out 1 rfl (by kernel_rfl) (Nat.le_of_ble_eq_true rfl) ?_ | refine LoadAt.one HM.out 2 rfl (by kernel_rfl) (Nat.le_of_ble_eq_true rfl) ?_ | refine LoadAt.one HM.out 3 rfl (by kernel_rfl) (Nat.le_of_ble_eq_true rfl) ?_); intro v hv; simp only [List.getElem?_cons_zero, List.getElem?_cons_succ, Option.some.injEq] at hv; subst hv; refine hK _ _ ?_; clear hK K; try simp only [Act.put, List.setIfInBounds_toArray, List.set_cons_zero, List.set_cons_succ]) | (with_reducible refine wpl_store (ty := 57) (fun K hK => ?_); refine wp_store_at _ _ _ rfl _ _ rfl (.agg (List.toArray _)) rfl ?_; (first | refine StoreAt.row HM.out 0 rfl (Nat.le_of_ble_eq_true rfl) (by kernel_rfl) rfl ?_ | refine StoreAt.row HM.out 1 rfl (Nat.le_of_ble_eq_true rfl) (by kernel_rfl) rfl ?_ | refine StoreAt.row HM.out 2 rfl (Nat.le_of_ble_eq_true rfl) (by kernel_rfl) rfl ?_ | refine StoreAt.row HM.out 3 rfl (Nat.le_of_ble_eq_true rfl) (by kernel_rfl) rfl ?_); intro w9 new hnew hm; simp only [setAll, overlay] at hnew; subst hnew; simp only [List.set_cons_zero, List.set_cons_succ] at hm; clear HM; have HM := Lib.hid hm; clear hm; refine hK _ _ ?_; clear hK K; try simp only [Act.put, List.setIfInBounds_toArray, List.set_cons_zero, List.set_cons_succ]) | (with_reducible refine wpl_store (ty := 27) (fun K hK => ?_); refine wp_store_at _ _ _ rfl _ _ rfl (.agg (List.toArray _)) rfl ?_; (first | refine StoreAt.row HM.out 0 rfl (Nat.le_of_ble_eq_true rfl) (by kernel_rfl) rfl ?_ | refine StoreAt.row HM.out 1 rfl (Nat.le_of_ble_eq_true rfl) (by kernel_rfl) rfl ?_ | refine StoreAt.row HM.out 2 rfl (Nat.le_of_ble_eq_true rfl) (by kernel_rfl) rfl ?_ | refine StoreAt.row HM.out 3 rfl (Nat.le_of_ble_eq_true rfl) (by kernel_rfl) rfl ?_); intro w9 new hnew hm; simp only [setAll, overlay] at hnew; subst hnew; simp only [List.set_cons_zero, List.set_cons_succ] at hm; clear HM; have HM := Lib.hid hm; clear hm; refine hK _ _ ?_; clear hK K; try simp only [Act.put, List.setIfInBounds_toArray, List.set_cons_zero, List.set_cons_succ]) | (with_reducible refine wpl_store (ty := 51) (fun K hK => ?_); refine wp_store_at _ _ _ rfl _ _ rfl (.agg (List.toArray _)) rfl ?_; (first | refine StoreAt.row HM.out 0 rfl (Nat.le_of_ble_eq_true rfl) (by kernel_rfl) rfl ?_ | refine StoreAt.row HM.out 1 rfl (Nat.le_of_ble_eq_true rfl) (by kernel_rfl) rfl ?_ | refine StoreAt.row HM.out 2 rfl (Nat.le_of_ble_eq_true rfl) (by kernel_rfl) rfl ?_ | refine StoreAt.row HM.out 3 rfl (Nat.le_of_ble_eq_true rfl) (by kernel_rfl) rfl ?_); intro w9 new hnew hm; simp only [setAll, overlay] at hnew; subst hnew; simp only [List.set_cons_zero, List.set_cons_succ] at hm; clear HM; have HM := Lib.hid hm; clear hm; refine hK _ _ ?_; clear hK K; try simp only [Act.put, List.setIfInBounds_toArray, List.set_cons_zero, List.set_cons_succ]) | (with_reducible refine wpl_store (ty := 53) (fun K hK => ?_); refine wp_store_at _ _ _ rfl _ _ rfl (.agg (List.toArray _)) rfl ?_; (first | refine StoreAt.row HM.out 0 rfl (Nat.le_of_ble_eq_true rfl) (by kernel_rfl) rfl ?_ | refine StoreAt.row HM.out 1 rfl (Nat.le_of_ble_eq_true rfl) (by kernel_rfl) rfl ?_ | refine StoreAt.row HM.out 2 rfl (Nat.le_of_ble_eq_true rfl) (by kernel_rfl) rfl ?_ | refine StoreAt.row HM.out 3 rfl (Nat.le_of_ble_eq_true rfl) (by kernel_rfl) rfl ?_); intro w9 new hnew hm; simp only [setAll, overlay] at hnew; subst hnew; simp only [List.set_cons_zero, List.set_cons_succ] at hm; clear HM; have HM := Lib.hid hm; clear hm; refine hK _ _ ?_; clear hK K; try simp only [Act.put, List.setIfInBounds_toArray, List.set_cons_zero, List.set_cons_succ]) | (with_reducible refine wpl_store (ty := 23) (fun K hK => ?_); refine wp_store_at _ _ _ rfl _ _ rfl (.agg (List.toArray _)) rfl ?_; (first | refine StoreAt.row HM.out 0 rfl (Nat.le_of_ble_eq_true rfl) (by kernel_rfl) rfl ?_ | refine StoreAt.row HM.out 1 rfl (Nat.le_of_ble_eq_true rfl) (by kernel_rfl) rfl ?_ | refine StoreAt.row HM.out 2 rfl (Nat.le_of_ble_eq_true rfl) (by kernel_rfl) rfl ?_ | refine StoreAt.row HM.out 3 rfl (Nat.le_of_ble_eq_true rfl) (by kernel_rfl) rfl ?_); intro w9 new hnew hm; simp only [setAll, overlay] at hnew; subst hnew; simp only [List.set_cons_zero, List.set_cons_succ] at hm; clear HM; have HM := Lib.hid hm; clear hm; refine hK _ _ ?_; clear hK K; try simp only [Act.put, List.setIfInBounds_toArray, List.set_cons_zero, List.set_cons_succ]) | (with_reducible refine wpl_store (ty := 25) (fun K hK => ?_); refine wp_store_at _ _ _ rfl _ _ rfl (.agg (List.toArray _)) rfl ?_; (first | refine StoreAt.row HM.out 0 rfl (Nat.le_of_ble_eq_true rfl) (by kernel_rfl) rfl ?_ | refine StoreAt.row HM.out 1 rfl (Nat.le_of_ble_eq_true rfl) (by kernel_rfl) rfl ?_ | refine StoreAt.row HM.out 2 rfl (Nat.le_of_ble_eq_true rfl) (by kernel_rfl) rfl ?_ | refine StoreAt.row HM.out 3 rfl (Nat.le_of_ble_eq_true rfl) (by kernel_rfl) rfl ?_); intro w9 new hnew hm; simp only [setAll, overlay] at hnew; subst hnew; simp only [List.set_cons_zero, List.set_cons_succ] at hm; clear HM; have HM := Lib.hid hm; clear hm; refine hK _ _ ?_; clear hK K; try simp only [Act.put, List.setIfInBounds_toArray, List.set_cons_zero, List.set_cons_succ]) | (with_reducible refine wpl_store (ty := 3) (fun K hK => ?_); refine wp_store_at _ _ _ rfl _ _ rfl (.int _ _) rfl ?_; (first | refine StoreAt.one HM.out 0 rfl (Nat.le_of_ble_eq_true rfl) rfl (by kernel_rfl) rfl ?_ | refine StoreAt.one HM.out 1 rfl (Nat.le_of_ble_eq_true rfl) rfl (by kernel_rfl) rfl ?_ | refine StoreAt.one HM.out 2 rfl (Nat.le_of_ble_eq_true rfl) rfl (by kernel_rfl) rfl ?_ | refine StoreAt.one HM.out 3 rfl (Nat.le_of_ble_eq_true rfl) rfl (by kernel_rfl) rfl ?_); intro w9 new hnew hm; simp only [List.set_cons_zero, List.set_cons_succ] at hnew; subst hnew; simp only [List.set_cons_zero, List.set_cons_succ] at hm; clear HM; have HM := Lib.hid hm; clear hm; refine hK _ _ ?_; clear hK K; try simp only [Act.put, List.setIfInBounds_toArray, List.set_cons_zero, List.set_cons_succ]) | (with_reducible refine wpl_alloc (ty := 57) (fun K hK => ?_); refine wp_alloc_ma 57 rfl HM.out [.int .i64 0, .int .i64 0, .int .i64 0, .int .i64 0, .int .i64 0, .int .i64 0, .int .i64 0, .int .i64 0, .int .i64 0, .int .i64 0, .int .i64 0, .int .i64 0, .int .i64 0, .int .i64 0, .int .i64 0, .int .i64 0, .int .i64 0, .int .i64 0] (by kernel_rfl) ?_; intro w9 k9 hm; clear HM; have HM := Lib.hid hm; clear hm; refine hK _ _ ?_; clear hK K; try simp only [Act.put, List.setIfInBounds_toArray, List.set_cons_zero, List.set_cons_succ]) | (with_reducible refine wpl_box (ty := 57) (fun K hK => ?_); refine wp_box_ma _ _ rfl HM.out _ rfl ?_; intro w9 kb9 hm; clear HM; have HM := Lib.hid hm; clear hm; refine hK _ _ ?_; clear hK K; try simp only [Act.put, List.setIfInBounds_toArray, List.set_cons_zero, List.set_cons_succ]) | (with_reducible refine wpl_box (ty := 27) (fun K hK => ?_); refine wp_box_ma _ _ rfl HM.out _ rfl ?_; intro w9 kb9 hm; clear HM; have HM := Lib.hid hm; clear hm; refine hK _ _ ?_; clear hK K; try simp only [Act.put, List.setIfInBounds_toArray, List.set_cons_zero, List.set_cons_succ]) | (with_reducible refine wpl_box (ty := 51) (fun K hK => ?_); refine wp_box_ma _ _ rfl HM.out _ rfl ?_; intro w9 kb9 hm; clear HM; have HM := Lib.hid hm; clear hm; refine hK _ _ ?_; clear hK K; try simp only [Act.put, List.setIfInBounds_toArray, List.set_cons_zero, List.set_cons_succ]) | (with_reducible refine wpl_box (ty := 53) (fun K hK => ?_); refine wp_box_ma _ _ rfl HM.out _ rfl ?_; intro w9 kb9 hm; clear HM; have HM := Lib.hid hm; clear hm; refine hK _ _ ?_; clear hK K; try simp only [Act.put, List.setIfInBounds_toArray, List.set_cons_zero, List.set_cons_succ]) | (with_reducible refine wpl_box (ty := 23) (fun K hK => ?_); refine wp_box_ma _ _ rfl HM.out _ rfl ?_; intro w9 kb9 hm; clear HM; have HM := Lib.hid hm; clear hm; refine hK _ _ ?_; clear hK K; try simp only [Act.put, List.setIfInBounds_toArray, List.set_cons_zero, List.set_cons_succ]) | (with_reducible refine wpl_box (ty := 25) (fun K hK => ?_); refine wp_box_ma _ _ rfl HM.out _ rfl ?_; intro w9 kb9 hm; clear HM; have HM := Lib.hid hm; clear hm; refine hK _ _ ?_; clear hK K; try simp only [Act.put, List.setIfInBounds_toArray, List.set_cons_zero, List.set_cons_succ]) | (with_reducible refine wpl_box (ty := 3) (fun K hK => ?_); refine wp_box_m1 _ _ rfl HM.out (.int _ _) rfl rfl ?_; intro w9 kb9 hm; clear HM; have HM := Lib.hid hm; clear hm; refine hK _ _ ?_; clear hK K; try simp only [Act.put, List.setIfInBounds_toArray, List.set_cons_zero, List.set_cons_succ]) | fail)
    go_ret
    exact numP_of HM.out rfl rfl rfl rfl
theorem rnums_any (r : Rq) (hg : r.good = true) (w : World) : Calls Try.prog 68 #[r.v] w fun e w' => NumP w w' e (rnums r) :=
  rnums_raw r.k r.ck r.pi r.px r.py r.si r.sl r.sh r.q.qk r.q.b1 r.q.b2 r.q.b3 r.q.b4 r.q.w1 r.q.w2 r.q.w3 r.q.x r.q.h hg w
end Go.Proofs.Ytencgokpbfkeiaa
