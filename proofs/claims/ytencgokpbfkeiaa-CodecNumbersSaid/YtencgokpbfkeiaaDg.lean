/- The request whose bytes a list is, its head being good (layer 29). -/
import Derived.Test.YtencgokpbfkeiaaDd
import Derived.Deep.LoopGhost
set_option linter.unusedVariables false
set_option linter.unusedSimpArgs false
namespace Go.Proofs.Ytencgokpbfkeiaa
open Go.ChangeShapes Go.WideShapes Go.ChangeAt Go.RowKit
theorem reads_drop {w : World} {B b o n : Nat} {l : List Int} (h : Reads w B 1 (some ⟨b, o, none⟩) n (kv .u8 l)) (i : Nat) (hi : i ≤ n) : Reads w B 1 (some ⟨b, o + i, none⟩) (n - i) (kv .u8 (l.drop i)) := by
  have hl := h.klen
  refine ⟨by simp [kv]; omega, fun h0 => ?_⟩
  obtain ⟨b2, o2, hA, hb, hc⟩ := h.row (by omega) (by omega)
  simp only [Option.some.injEq, Addr.mk.injEq] at hA
  obtain ⟨rfl, rfl, -⟩ := hA
  refine ⟨_, rfl, hb, fun j u hu => ?_⟩
  have e : (⟨b, o + i, none⟩ : Addr).add j = ⟨b, o + (i + j), none⟩ := by unfold Addr.add; split <;> simp_all <;> omega
  rw [e]
  refine hc (i + j) u ?_
  rw [← hu]
  simp [kv]
theorem iv_set (l : List Int) (j : Nat) (z : Int) : (iv l).set j (.int .i64 z) = iv (l.set j z) := by simp [iv, List.map_set]
/-- a list of bytes that lies there, whatever new has come -/
def Rest (w : World) (b o n : Nat) (l : List Int) : Prop := ∀ W, Below w.heap.size w W → Reads W w.heap.size 1 (some ⟨b, o, none⟩) n (kv .u8 l)
theorem Rest.of {w : World} {b o n : Nat} {l : List Int} (h : Reads w w.heap.size 1 (some ⟨b, o, none⟩) n (kv .u8 l)) : Rest w b o n l := fun W hW => h.below hW
theorem Rest.drop {w : World} {b o n : Nat} {l : List Int} (h : Rest w b o n l) (i : Nat) (hi : i ≤ n) : Rest w b (o + i) (n - i) (l.drop i) := fun W hW => reads_drop (h W hW) i hi
theorem Rest.nil {w : World} {b o n : Nat} (hn : n = 0) : Rest w b o n [] := fun W hW => ⟨by simp [kv, hn], fun h => by omega⟩
theorem Rest.len {w : World} {b o n : Nat} {l : List Int} (h : Rest w b o n l) : l.length = n := by have := (h w (Below.refl _ _)).klen; omega
theorem rest_all {w : World} {b o n : Nat} {l : List Int} (h : Rest w b o n l) (i : Nat) (hi : i = n) (o2 n2 : Nat) (hn : n2 = n - i) : Rest w b o2 n2 (l.drop i) := by
  have hl := h.len
  rw [List.drop_of_length_le (by omega)]
  exact Rest.nil (by omega)
def Prog (m : Nat) (bs : List Int) (j : Nat) (rest L : List Int) : Prop := (rdn (m - j) rest = none → rdn m bs = none) ∧ ∀ l' r', rdn (m - j) rest = some (l', r') → rdn m bs = some (L.take j ++ l', r')
theorem Prog.none {m j : Nat} {bs rest L : List Int} (h : Prog m bs j rest L) (hj : j < m) (hr : rd 0 0 rest = none) : rdn m bs = none := h.1 (by
  obtain ⟨k, hk⟩ : ∃ k, m - j = k + 1 := ⟨m - j - 1, by omega⟩
  rw [hk]; simp only [rdn, hr])
theorem Prog.next {m j Z s : Nat} {bs rest L : List Int} (h : Prog m bs j rest L) (hj : j < m) (hL : L.length = m) (hr : rd 0 0 rest = some (Z, s)) : Prog m bs (j + 1) (rest.drop s) (L.set j (zag Z)) := by
  obtain ⟨k, hk⟩ : ∃ k, m - j = k + 1 := ⟨m - j - 1, by omega⟩
  have hk2 : m - (j + 1) = k := by omega
  unfold Prog at h ⊢
  rw [hk] at h
  rw [hk2]
  have e : (L.set j (zag Z)).take (j + 1) = L.take j ++ [zag Z] := by
    rw [List.take_add_one, List.getElem?_set_self (by omega), List.take_set_of_le (Nat.le_refl _)]
    rfl
  refine ⟨fun hn => h.1 (by simp only [rdn, hr, hn]), fun l' r' hs => ?_⟩
  rw [e, List.append_assoc]
  exact h.2 (zag Z :: l') r' (by simp only [rdn, hr, hs])
set_option maxRecDepth 100000 in
set_option maxHeartbeats 16000000 in
theorem dec_good (b off n c : Nat) (bs : List Int) (x : Int) (w : World) (hnc : n ≤ c ∧ c ≤ maxLen) (hr : Reads w w.heap.size 1 (some ⟨b, off, none⟩) n (kv .u8 (x :: bs))) (ho : okK .u8 (x :: bs)) (hg : (hdr x).good = true) :
    Calls Try.prog 35 #[.slice (some ⟨b, off, none⟩) n c] w fun e w' => DecP (dec (x :: bs)) w w' e := by
  have hn : n = bs.length + 1 := by have := hr.klen; simpa using this.symm
  have p : w.cell? ⟨b, off, none⟩ = some (.int .u8 x) := by
    obtain ⟨b2, o2, hA, hb, hc⟩ := hr.row (by omega) (by omega)
    simp only [Option.some.injEq, Addr.mk.injEq] at hA
    obtain ⟨rfl, rfl, -⟩ := hA
    exact hc 0 _ rfl
  have hx : 0 ≤ x ∧ x < 256 := by have := bounds_u8 (ho x (by simp)); omega
  have t0 : ((n : Int) == 0) = false := by simp; omega
  have t1 : (0 : Int) < (n : Int) := by omega
  have t2 : 0 < n := by omega
  have t3 : (1 : Int) ≤ (n : Int) := by omega
  obtain ⟨r, hrx⟩ : ∃ r, r = hdr x := ⟨_, rfl⟩
  obtain ⟨L0, hL0⟩ : ∃ L0, L0 = rnums r := ⟨_, rfl⟩
  obtain ⟨m, hm⟩ : ∃ m, m = L0.length := ⟨_, rfl⟩
  have HHD : Hid (∀ W, Calls Try.prog 66 #[.int .u8 x] W fun e w' => e = .returned (.agg #[.int .i64 r.k, .int .i64 r.ck, .int .i64 r.pi, .int .i64 r.px, .int .i64 r.py, .int .i64 r.si, .int .i64 r.sl, .int .i64 r.sh, .int .i64 r.q.qk, .int .i64 r.q.b1, .int .i64 r.q.b2, .int .i64 r.q.b3, .int .i64 r.q.b4, .int .i64 r.q.w1, .int .i64 r.q.w2, .int .i64 r.q.w3, .int .i64 r.q.x, .int .i64 r.q.h]) ∧ Below W.heap.size W w') := Lib.hid (fun W => by rw [hrx]; exact head_any x hx W)
  have HGD : Hid (∀ W, Calls Try.prog 30 #[.agg #[.int .i64 r.k, .int .i64 r.ck, .int .i64 r.pi, .int .i64 r.px, .int .i64 r.py, .int .i64 r.si, .int .i64 r.sl, .int .i64 r.sh, .int .i64 r.q.qk, .int .i64 r.q.b1, .int .i64 r.q.b2, .int .i64 r.q.b3, .int .i64 r.q.b4, .int .i64 r.q.w1, .int .i64 r.q.w2, .int .i64 r.q.w3, .int .i64 r.q.x, .int .i64 r.q.h]] W fun e w' => e = .returned (.bool true) ∧ Below W.heap.size W w') := Lib.hid (fun W => by have h := good_r r W; rw [hrx, hg] at h; rw [hrx]; exact h)
  have HN : Hid (∀ W, Calls Try.prog 65 #[.agg #[.int .i64 r.k, .int .i64 r.ck, .int .i64 r.pi, .int .i64 r.px, .int .i64 r.py, .int .i64 r.si, .int .i64 r.sl, .int .i64 r.sh, .int .i64 r.q.qk, .int .i64 r.q.b1, .int .i64 r.q.b2, .int .i64 r.q.b3, .int .i64 r.q.b4, .int .i64 r.q.w1, .int .i64 r.q.w2, .int .i64 r.q.w3, .int .i64 r.q.x, .int .i64 r.q.h]] W fun e w' => ∃ g, e = .returned (.slice (some ⟨g, 0, none⟩) m m) ∧ Blk w' g 3 (iv L0).toArray ∧ W.heap.size ≤ g ∧ Below W.heap.size W w') := Lib.hid (fun W => by
    have h := nums_any r (by rw [hrx]; exact hg) W
    unfold NumP at h
    rw [hm, hL0]
    exact h)
  have HP := Lib.hid p
  have HR := Lib.hid hr
  have HO := Lib.hid ho
  have HX := Lib.hid hx
  have HG := Lib.hid hg
  have HRX := Lib.hid hrx
  have HL0 : Hid (L0 = rnums r ∧ m = L0.length) := Lib.hid ⟨hL0, hm⟩
  have HNC := Lib.hid hnc
  have HNB := Lib.hid hn
  have HRS := Lib.hid (Rest.of hr)
  clear hn hnc hr ho hg hx p hrx hL0 hm
  have HM : Hid (Mem (fun _ => False) w [] w) := Lib.hid (Mem.start _ w)
  go_enter Try.func35, Try.ntmps35
  go_upto_region 1 with (first | (with_reducible refine wpl_load (ty := 57) (fun K hK => ?_); refine wp_load_at _ _ rfl _ _ rfl ?_; refine LoadAt.row (n := 18) HM.out 0 rfl (by kernel_rfl) (by kernel_rfl) (Nat.le_of_ble_eq_true rfl) ?_; intro r hr; simp only [List.drop_zero, List.drop_succ_cons, List.take_zero, List.take_succ_cons, List.take_nil] at hr; subst hr; refine hK _ _ ?_; clear hK K; try simp only [Act.put, List.setIfInBounds_toArray, List.set_cons_zero, List.set_cons_succ]) | (with_reducible refine wpl_load (fun K hK => ?_); refine wp_load_at _ _ rfl _ _ rfl ?_; refine LoadAt.one HM.out 0 rfl (by kernel_rfl) (Nat.le_of_ble_eq_true rfl) ?_; intro v hv; simp only [List.getElem?_cons_zero, List.getElem?_cons_succ, Option.some.injEq] at hv; subst hv; refine hK _ _ ?_; clear hK K; try simp only [Act.put, List.setIfInBounds_toArray, List.set_cons_zero, List.set_cons_succ]) | (with_reducible refine wpl_store (ty := 57) (fun K hK => ?_); refine wp_store_at _ _ _ rfl _ _ rfl (.agg (List.toArray _)) rfl ?_; refine StoreAt.row HM.out 0 rfl (Nat.le_of_ble_eq_true rfl) (by kernel_rfl) rfl ?_; intro w9 new hnew hm; simp only [setAll, overlay] at hnew; subst hnew; simp only [List.set_cons_zero, List.set_cons_succ] at hm; clear HM; have HM := Lib.hid hm; clear hm; refine hK _ _ ?_; clear hK K; try simp only [Act.put, List.setIfInBounds_toArray, List.set_cons_zero, List.set_cons_succ]) | (with_reducible refine wpl_store (ty := 3) (fun K hK => ?_); refine wp_store_at _ _ _ rfl _ _ rfl (.int _ _) rfl ?_; refine StoreAt.one HM.out 0 rfl (Nat.le_of_ble_eq_true rfl) rfl (by kernel_rfl) rfl ?_; intro w9 new hnew hm; simp only [List.set_cons_zero, List.set_cons_succ] at hnew; subst hnew; simp only [List.set_cons_zero, List.set_cons_succ] at hm; clear HM; have HM := Lib.hid hm; clear hm; refine hK _ _ ?_; clear hK K; try simp only [Act.put, List.setIfInBounds_toArray, List.set_cons_zero, List.set_cons_succ]) | (with_reducible refine wpl_alloc (ty := 57) (fun K hK => ?_); refine wp_alloc_ma 57 rfl HM.out [.int .i64 0, .int .i64 0, .int .i64 0, .int .i64 0, .int .i64 0, .int .i64 0, .int .i64 0, .int .i64 0, .int .i64 0, .int .i64 0, .int .i64 0, .int .i64 0, .int .i64 0, .int .i64 0, .int .i64 0, .int .i64 0, .int .i64 0, .int .i64 0] (by kernel_rfl) ?_; intro w9 k9 hm; clear HM; have HM := Lib.hid hm; clear hm; refine hK _ _ ?_; clear hK K; try simp only [Act.put, List.setIfInBounds_toArray, List.set_cons_zero, List.set_cons_succ]) | (with_reducible refine wpl_box (ty := 57) (fun K hK => ?_); refine wp_box_ma _ _ rfl HM.out _ rfl ?_; intro w9 kb9 hm; clear HM; have HM := Lib.hid hm; clear hm; refine hK _ _ ?_; clear hK K; try simp only [Act.put, List.setIfInBounds_toArray, List.set_cons_zero, List.set_cons_succ]) | (with_reducible refine wpl_box (ty := 3) (fun K hK => ?_); refine wp_box_m1 _ _ rfl HM.out (.int _ _) rfl rfl ?_; intro w9 kb9 hm; clear HM; have HM := Lib.hid hm; clear hm; refine hK _ _ ?_; clear hK K; try simp only [Act.put, List.setIfInBounds_toArray, List.set_cons_zero, List.set_cons_succ]) | fail)
  have p := HM.out.old_cell HP.out
  obtain ⟨kr, rfl⟩ : ∃ kr, kr = k9 := ⟨_, rfl⟩
  go_upto_region 4 with (first | (go_at_call 66; refine (HHD.out _).mono ?_; rintro e wx ⟨rfl, hb⟩; have hm := HM.out.below hb; clear HM; have HM := Lib.hid hm; clear hm hb) | (with_reducible refine wpl_load (ty := 57) (fun K hK => ?_); refine wp_load_at _ _ rfl _ _ rfl ?_; (first | refine LoadAt.row (n := 18) HM.out 0 rfl (by kernel_rfl) (by kernel_rfl) (Nat.le_of_ble_eq_true rfl) ?_ | refine LoadAt.row (n := 18) HM.out 1 rfl (by kernel_rfl) (by kernel_rfl) (Nat.le_of_ble_eq_true rfl) ?_); intro r hr; simp only [List.drop_zero, List.drop_succ_cons, List.take_zero, List.take_succ_cons, List.take_nil] at hr; subst hr; refine hK _ _ ?_; clear hK K; try simp only [Act.put, List.setIfInBounds_toArray, List.set_cons_zero, List.set_cons_succ]) | (with_reducible refine wpl_load (fun K hK => ?_); refine wp_load_at _ _ rfl _ _ rfl ?_; (first | refine LoadAt.one HM.out 0 rfl (by kernel_rfl) (Nat.le_of_ble_eq_true rfl) ?_ | refine LoadAt.one HM.out 1 rfl (by kernel_rfl) (Nat.le_of_ble_eq_true rfl) ?_); intro v hv; simp only [List.getElem?_cons_zero, List.getElem?_cons_succ, Option.some.injEq] at hv; subst hv; refine hK _ _ ?_; clear hK K; try simp only [Act.put, List.setIfInBounds_toArray, List.set_cons_zero, List.set_cons_succ]) | (with_reducible refine wpl_store (ty := 57) (fun K hK => ?_); refine wp_store_at _ _ _ rfl _ _ rfl (.agg (List.toArray _)) rfl ?_; (first | refine StoreAt.row HM.out 0 rfl (Nat.le_of_ble_eq_true rfl) (by kernel_rfl) rfl ?_ | refine StoreAt.row HM.out 1 rfl (Nat.le_of_ble_eq_true rfl) (by kernel_rfl) rfl ?_); intro w9 new hnew hm; simp only [setAll, overlay] at hnew; subst hnew; simp only [List.set_cons_zero, List.set_cons_succ] at hm; clear HM; have HM := Lib.hid hm; clear hm; refine hK _ _ ?_; clear hK K; try simp only [Act.put, List.setIfInBounds_toArray, List.set_cons_zero, List.set_cons_succ]) | (with_reducible refine wpl_store (ty := 3) (fun K hK => ?_); refine wp_store_at _ _ _ rfl _ _ rfl (.int _ _) rfl ?_; (first | refine StoreAt.one HM.out 0 rfl (Nat.le_of_ble_eq_true rfl) rfl (by kernel_rfl) rfl ?_ | refine StoreAt.one HM.out 1 rfl (Nat.le_of_ble_eq_true rfl) rfl (by kernel_rfl) rfl ?_); intro w9 new hnew hm; simp only [List.set_cons_zero, List.set_cons_succ] at hnew; subst hnew; simp only [List.set_cons_zero, List.set_cons_succ] at hm; clear HM; have HM := Lib.hid hm; clear hm; refine hK _ _ ?_; clear hK K; try simp only [Act.put, List.setIfInBounds_toArray, List.set_cons_zero, List.set_cons_succ]) | (with_reducible refine wpl_alloc (ty := 57) (fun K hK => ?_); refine wp_alloc_ma 57 rfl HM.out [.int .i64 0, .int .i64 0, .int .i64 0, .int .i64 0, .int .i64 0, .int .i64 0, .int .i64 0, .int .i64 0, .int .i64 0, .int .i64 0, .int .i64 0, .int .i64 0, .int .i64 0, .int .i64 0, .int .i64 0, .int .i64 0, .int .i64 0, .int .i64 0] (by kernel_rfl) ?_; intro w9 k9 hm; clear HM; have HM := Lib.hid hm; clear hm; refine hK _ _ ?_; clear hK K; try simp only [Act.put, List.setIfInBounds_toArray, List.set_cons_zero, List.set_cons_succ]) | (with_reducible refine wpl_box (ty := 57) (fun K hK => ?_); refine wp_box_ma _ _ rfl HM.out _ rfl ?_; intro w9 kb9 hm; clear HM; have HM := Lib.hid hm; clear hm; refine hK _ _ ?_; clear hK K; try simp only [Act.put, List.setIfInBounds_toArray, List.set_cons_zero, List.set_cons_succ]) | (with_reducible refine wpl_box (ty := 3) (fun K hK => ?_); refine wp_box_m1 _ _ rfl HM.out (.int _ _) rfl rfl ?_; intro w9 kb9 hm; clear HM; have HM := Lib.hid hm; clear hm; refine hK _ _ ?_; clear hK K; try simp only [Act.put, List.setIfInBounds_toArray, List.set_cons_zero, List.set_cons_succ]) | fail)
  clear p
  go_upto_region 6 with (first | (go_at_call 30; refine (HGD.out _).mono ?_; rintro e wx ⟨rfl, hb⟩; have hm := HM.out.below hb; clear HM; have HM := Lib.hid hm; clear hm hb) | (with_reducible refine wpl_load (ty := 57) (fun K hK => ?_); refine wp_load_at _ _ rfl _ _ rfl ?_; (first | refine LoadAt.row (n := 18) HM.out 0 rfl (by kernel_rfl) (by kernel_rfl) (Nat.le_of_ble_eq_true rfl) ?_ | refine LoadAt.row (n := 18) HM.out 1 rfl (by kernel_rfl) (by kernel_rfl) (Nat.le_of_ble_eq_true rfl) ?_); intro r hr; simp only [List.drop_zero, List.drop_succ_cons, List.take_zero, List.take_succ_cons, List.take_nil] at hr; subst hr; refine hK _ _ ?_; clear hK K; try simp only [Act.put, List.setIfInBounds_toArray, List.set_cons_zero, List.set_cons_succ]) | (with_reducible refine wpl_load (fun K hK => ?_); refine wp_load_at _ _ rfl _ _ rfl ?_; (first | refine LoadAt.one HM.out 0 rfl (by kernel_rfl) (Nat.le_of_ble_eq_true rfl) ?_ | refine LoadAt.one HM.out 1 rfl (by kernel_rfl) (Nat.le_of_ble_eq_true rfl) ?_); intro v hv; simp only [List.getElem?_cons_zero, List.getElem?_cons_succ, Option.some.injEq] at hv; subst hv; refine hK _ _ ?_; clear hK K; try simp only [Act.put, List.setIfInBounds_toArray, List.set_cons_zero, List.set_cons_succ]) | (with_reducible refine wpl_store (ty := 57) (fun K hK => ?_); refine wp_store_at _ _ _ rfl _ _ rfl (.agg (List.toArray _)) rfl ?_; (first | refine StoreAt.row HM.out 0 rfl (Nat.le_of_ble_eq_true rfl) (by kernel_rfl) rfl ?_ | refine StoreAt.row HM.out 1 rfl (Nat.le_of_ble_eq_true rfl) (by kernel_rfl) rfl ?_); intro w9 new hnew hm; simp only [setAll, overlay] at hnew; subst hnew; simp only [List.set_cons_zero, List.set_cons_succ] at hm; clear HM; have HM := Lib.hid hm; clear hm; refine hK _ _ ?_; clear hK K; try simp only [Act.put, List.setIfInBounds_toArray, List.set_cons_zero, List.set_cons_succ]) | (with_reducible refine wpl_store (ty := 3) (fun K hK => ?_); refine wp_store_at _ _ _ rfl _ _ rfl (.int _ _) rfl ?_; (first | refine StoreAt.one HM.out 0 rfl (Nat.le_of_ble_eq_true rfl) rfl (by kernel_rfl) rfl ?_ | refine StoreAt.one HM.out 1 rfl (Nat.le_of_ble_eq_true rfl) rfl (by kernel_rfl) rfl ?_); intro w9 new hnew hm; simp only [List.set_cons_zero, List.set_cons_succ] at hnew; subst hnew; simp only [List.set_cons_zero, List.set_cons_succ] at hm; clear HM; have HM := Lib.hid hm; clear hm; refine hK _ _ ?_; clear hK K; try simp only [Act.put, List.setIfInBounds_toArray, List.set_cons_zero, List.set_cons_succ]) | (with_reducible refine wpl_alloc (ty := 57) (fun K hK => ?_); refine wp_alloc_ma 57 rfl HM.out [.int .i64 0, .int .i64 0, .int .i64 0, .int .i64 0, .int .i64 0, .int .i64 0, .int .i64 0, .int .i64 0, .int .i64 0, .int .i64 0, .int .i64 0, .int .i64 0, .int .i64 0, .int .i64 0, .int .i64 0, .int .i64 0, .int .i64 0, .int .i64 0] (by kernel_rfl) ?_; intro w9 k9 hm; clear HM; have HM := Lib.hid hm; clear hm; refine hK _ _ ?_; clear hK K; try simp only [Act.put, List.setIfInBounds_toArray, List.set_cons_zero, List.set_cons_succ]) | (with_reducible refine wpl_box (ty := 57) (fun K hK => ?_); refine wp_box_ma _ _ rfl HM.out _ rfl ?_; intro w9 kb9 hm; clear HM; have HM := Lib.hid hm; clear hm; refine hK _ _ ?_; clear hK K; try simp only [Act.put, List.setIfInBounds_toArray, List.set_cons_zero, List.set_cons_succ]) | (with_reducible refine wpl_box (ty := 3) (fun K hK => ?_); refine wp_box_m1 _ _ rfl HM.out (.int _ _) rfl rfl ?_; intro w9 kb9 hm; clear HM; have HM := Lib.hid hm; clear hm; refine hK _ _ ?_; clear hK K; try simp only [Act.put, List.setIfInBounds_toArray, List.set_cons_zero, List.set_cons_succ]) | fail)
  go_cut [0, 5, 6] (fun s0 s5 s6 wx => ∃ (g o6 c6 : Nat), s5 = .slice (some ⟨g, 0, none⟩) m m ∧ s6 = .slice (some ⟨b, o6, none⟩) (n - 1) c6 ∧ Hid (n - 1 ≤ c6 ∧ c6 ≤ maxLen ∧ Rest w b o6 (n - 1) ((x :: bs).drop 1)) ∧ Hid (Mem (fun _ => False) w [⟨g, 3, iv L0, true⟩, ⟨k9, 57, [.int .i64 r.k, .int .i64 r.ck, .int .i64 r.pi, .int .i64 r.px, .int .i64 r.py, .int .i64 r.si, .int .i64 r.sl, .int .i64 r.sh, .int .i64 r.q.qk, .int .i64 r.q.b1, .int .i64 r.q.b2, .int .i64 r.q.b3, .int .i64 r.q.b4, .int .i64 r.q.w1, .int .i64 r.q.w2, .int .i64 r.q.w3, .int .i64 r.q.x, .int .i64 r.q.h], true⟩, ⟨kr, 57, [.int .i64 0, .int .i64 0, .int .i64 0, .int .i64 0, .int .i64 0, .int .i64 0, .int .i64 0, .int .i64 0, .int .i64 0, .int .i64 0, .int .i64 0, .int .i64 0, .int .i64 0, .int .i64 0, .int .i64 0, .int .i64 0, .int .i64 0, .int .i64 0], true⟩] wx))
  case first =>
    refine wp_region_noPanic ?_
    refine wp_region_held_drew (S := (fun w' => Blk w' k9 57 #[.int .i64 r.k, .int .i64 r.ck, .int .i64 r.pi, .int .i64 r.px, .int .i64 r.py, .int .i64 r.si, .int .i64 r.sl, .int .i64 r.sh, .int .i64 r.q.qk, .int .i64 r.q.b1, .int .i64 r.q.b2, .int .i64 r.q.b3, .int .i64 r.q.b4, .int .i64 r.q.w1, .int .i64 r.q.w2, .int .i64 r.q.w3, .int .i64 r.q.x, .int .i64 r.q.h])) (by kernel_rfl) ?_ (fun hHeld => ?_)
    · exact HM.out.at_ 0 rfl
    have hm := HM.out.drew
    clear HM
    have HM := Lib.hid hm
    clear hm
    have HB6 := Lib.hid (HM.out.only.size)
    refine wpAnyH_take (i := 0) (oi := ⟨_, _, _, _, _, _⟩) (v := .agg #[.int .i64 r.k, .int .i64 r.ck, .int .i64 r.pi, .int .i64 r.px, .int .i64 r.py, .int .i64 r.si, .int .i64 r.sl, .int .i64 r.sh, .int .i64 r.q.qk, .int .i64 r.q.b1, .int .i64 r.q.b2, .int .i64 r.q.b3, .int .i64 r.q.b4, .int .i64 r.q.w1, .int .i64 r.q.w2, .int .i64 r.q.w3, .int .i64 r.q.x, .int .i64 r.q.h]) rfl (by kernel_rfl) (by kernel_rfl) (by kernel_rfl) (fun _ _ _ h => h) (yieldsIf_load_mid (by rfl) 57 (.tmp 4) rfl _ 0 rfl [.int .i64 r.k, .int .i64 r.ck, .int .i64 r.pi, .int .i64 r.px, .int .i64 r.py, .int .i64 r.si, .int .i64 r.sl, .int .i64 r.sh, .int .i64 r.q.qk, .int .i64 r.q.b1, .int .i64 r.q.b2, .int .i64 r.q.b3, .int .i64 r.q.b4, .int .i64 r.q.w1, .int .i64 r.q.w2, .int .i64 r.q.w3, .int .i64 r.q.x, .int .i64 r.q.h] _ (fun w h => range_of_blk h 0 18 _ rfl) Try.underlying57 rfl (by kernel_rfl)) (by assumption) ?_
    try simp only [Act.put, List.setIfInBounds_toArray, List.set_cons_zero, List.set_cons_succ]
    refine wpAnyH_take (i := 2) (oi := ⟨_, _, _, _, _, _⟩) (v := ?_) rfl (by kernel_rfl) (by kernel_rfl) (by kernel_rfl) (fun _ _ _ h => h) (Or.inl ⟨by rfl, ?_⟩) (by assumption) ?_
    rotate_left
    · intro w hSw; (try dsimp only at hSw); go_split_ands; go_simp; try with_reducible rfl
    try simp only [Act.put, List.setIfInBounds_toArray, List.set_cons_zero, List.set_cons_succ]
    refine wpAnyH_take (i := 3) (oi := ⟨_, _, _, _, _, _⟩) (v := ?_) rfl (by kernel_rfl) (by kernel_rfl) (by kernel_rfl) (fun _ _ _ h => h) (Or.inl ⟨by rfl, ?_⟩) (by assumption) ?_
    rotate_left
    · intro w hSw; (try dsimp only at hSw); go_split_ands; go_simp; try with_reducible rfl
    try simp only [Act.put, List.setIfInBounds_toArray, List.set_cons_zero, List.set_cons_succ]
    refine wpAnyH_ready (rs := [1]) (by kernel_rfl) (by simp) ?_
    refine AllReadyH.cons (o := ⟨_, _, _, _, _, _⟩) rfl (fun K hK => ?_) AllReadyH.nil
    go_simp
    go_at_call 65
    refine (HN.out _).mono ?_
    rintro e wy ⟨g, rfl, hg2, hgs, hb2⟩
    have hm := HM.out.below hb2
    clear HM
    have HM := Lib.hid hm
    have HG2 := Lib.hid hg2
    have HGS := Lib.hid (Nat.le_trans HB6.out hgs)
    clear hm hg2 hgs hb2
    refine hK.out _ _ ?_ (fun hHeld => ?_)
    · exact HM.out.at_ 0 rfl
    clear hK K
    try simp only [Act.put, List.setIfInBounds_toArray, List.set_cons_zero, List.set_cons_succ]
    refine wpAnyH_take (i := 4) (oi := ⟨_, _, _, _, _, _⟩) (v := ?_) rfl (by kernel_rfl) (by kernel_rfl) (by kernel_rfl) (fun _ _ _ h => h) (Or.inl ⟨by rfl, ?_⟩) (by assumption) ?_
    rotate_left
    · intro w hSw; (try dsimp only at hSw); go_split_ands; go_simp; try with_reducible rfl
    try simp only [Act.put, List.setIfInBounds_toArray, List.set_cons_zero, List.set_cons_succ]
    refine wpAnyH_take (i := 5) (oi := ⟨_, _, _, _, _, _⟩) (v := ?_) rfl (by kernel_rfl) (by kernel_rfl) (by kernel_rfl) (fun _ _ _ h => h) (Or.inl ⟨by rfl, ?_⟩) (by assumption) ?_
    rotate_left
    · intro w hSw; (try dsimp only at hSw); go_split_ands; go_simp; try with_reducible rfl
    try simp only [Act.put, List.setIfInBounds_toArray, List.set_cons_zero, List.set_cons_succ]
    refine wpAnyH_done (by kernel_rfl) ?_ _
    refine NoPanic.normal ?_
    have hm : Mem (fun _ => False) w [⟨g, 3, iv L0, true⟩, ⟨k9, 57, [.int .i64 r.k, .int .i64 r.ck, .int .i64 r.pi, .int .i64 r.px, .int .i64 r.py, .int .i64 r.si, .int .i64 r.sl, .int .i64 r.sh, .int .i64 r.q.qk, .int .i64 r.q.b1, .int .i64 r.q.b2, .int .i64 r.q.b3, .int .i64 r.q.b4, .int .i64 r.q.w1, .int .i64 r.q.w2, .int .i64 r.q.w3, .int .i64 r.q.x, .int .i64 r.q.h], true⟩, ⟨kr, 57, [.int .i64 0, .int .i64 0, .int .i64 0, .int .i64 0, .int .i64 0, .int .i64 0, .int .i64 0, .int .i64 0, .int .i64 0, .int .i64 0, .int .i64 0, .int .i64 0, .int .i64 0, .int .i64 0, .int .i64 0, .int .i64 0, .int .i64 0, .int .i64 0], true⟩] _ := HM.out.old HG2.out (by simp; exact ⟨Blk.ne_ (HM.out.at_ 0 rfl) HG2.out (by show (57 : Nat) ≠ 3; decide), Blk.ne_ (HM.out.at_ 1 rfl) HG2.out (by show (57 : Nat) ≠ 3; decide)⟩) true (fun _ => .inr HGS.out)
    have HM2 := Lib.hid hm
    clear hm
    go_wp2_with fail
    all_goals
      go_meet
      first
      | exact ⟨g, _, _, rfl, rfl, Lib.hid ⟨by have := HNC.out; omega, by have := HNC.out; omega, HRS.out.drop 1 (by have := HNB.out; omega)⟩, HM2⟩
      | exact ⟨g, _, _, rfl, rfl, Lib.hid ⟨by have := HNC.out; omega, by have := HNC.out; omega, rest_all HRS.out 1 (by have := HNC.out; have := HNB.out; omega) _ _ rfl⟩, HM2⟩
  clear HM
  obtain ⟨g, o6, c6, rfl, rfl, HF0, HM⟩ := hcut
  clear t0 t1 t2 t3
  go_wp2_with fail
  go_loopg [6, 28] m (fun k t6 i wr => ∃ (j o6 n6 c6 : Nat) (rest L1 : List Int), j + k = m ∧ t6 = .slice (some ⟨b, o6, none⟩) n6 c6 ∧ i = .int .i64 (j : Int) ∧ Hid (n6 ≤ c6 ∧ c6 ≤ maxLen ∧ Rest w b o6 n6 rest ∧ okK .u8 rest ∧ L1.length = m ∧ Prog m bs j rest L1) ∧ Hid (Mem (fun _ => False) w [⟨g, 3, iv L1, true⟩, ⟨k9, 57, [.int .i64 r.k, .int .i64 r.ck, .int .i64 r.pi, .int .i64 r.px, .int .i64 r.py, .int .i64 r.si, .int .i64 r.sl, .int .i64 r.sh, .int .i64 r.q.qk, .int .i64 r.q.b1, .int .i64 r.q.b2, .int .i64 r.q.b3, .int .i64 r.q.b4, .int .i64 r.q.w1, .int .i64 r.q.w2, .int .i64 r.q.w3, .int .i64 r.q.x, .int .i64 r.q.h], true⟩, ⟨kr, 57, [.int .i64 0, .int .i64 0, .int .i64 0, .int .i64 0, .int .i64 0, .int .i64 0, .int .i64 0, .int .i64 0, .int .i64 0, .int .i64 0, .int .i64 0, .int .i64 0, .int .i64 0, .int .i64 0, .int .i64 0, .int .i64 0, .int .i64 0, .int .i64 0], true⟩] wr))
  case atStart => exact ⟨0, o6, n - 1, c6, bs, L0, by omega, rfl, rfl, Lib.hid ⟨HF0.out.1, HF0.out.2.1, HF0.out.2.2, fun z hz => HO.out z (List.mem_cons_of_mem _ hz), HL0.out.2.symm, ⟨fun h => h, fun l' r' h => by simpa using h⟩⟩, HM⟩
  case round =>
    clear HM HF0
    obtain ⟨j, o6, n6, c6, rest, L1, hjk, rfl, rfl, HF, HM⟩ := hrel
    have HJ := Lib.hid hjk
    have HLJ := Lib.hid HF.out.2.2.2.2.1
    by_cases hlt : j < m
    · have t5 : decide ((j : Int) < (m : Int)) = true := by simp; omega
      have t6 : (j : Int) < (m : Int) := by omega
      have HJ2 := Lib.hid hlt
      have HRD := Lib.hid (read_any (some ⟨b, o6, none⟩) n6 c6 w.heap.size rest wr (HF.out.2.2.1 wr (HM.out.to_below (fun _ _ h => h))) HF.out.2.2.2.1 (Nat.le_trans HF.out.1 HF.out.2.1))
      clear hjk hlt
      cases hrd : rd 0 0 rest with
      | none =>
        have hc := HRD.out
        rw [hrd] at hc
        have HC : Hid (Calls Try.prog 40 #[.slice (some ⟨b, o6, none⟩) n6 c6] wr fun e w' => e = .returned (.tuple #[.int .i64 0, .int .i64 0]) ∧ wr = w') := Lib.hid hc
        have HD : Hid (dec (x :: bs) = none) := Lib.hid (by
          have h := HF.out.2.2.2.2.2.none HJ2.out hrd
          simp only [dec]
          rw [if_pos HG.out, ← HRX.out, ← HL0.out.1, ← HL0.out.2, h])
        clear hc hrd HRD
        go_wp2_with (first | (go_at_call 40; refine (HC.out).mono ?_; rintro e wq ⟨rfl, rfl⟩) | (with_reducible refine wpl_load (ty := 57) (fun K hK => ?_); refine wp_load_at _ _ rfl _ _ rfl ?_; (first | refine LoadAt.row (n := 18) HM.out 0 rfl (by kernel_rfl) (by kernel_rfl) (Nat.le_of_ble_eq_true rfl) ?_ | refine LoadAt.row (n := 18) HM.out 1 rfl (by kernel_rfl) (by kernel_rfl) (Nat.le_of_ble_eq_true rfl) ?_ | refine LoadAt.row (n := 18) HM.out 2 rfl (by kernel_rfl) (by kernel_rfl) (Nat.le_of_ble_eq_true rfl) ?_); intro r hr; simp only [List.drop_zero, List.drop_succ_cons, List.take_zero, List.take_succ_cons, List.take_nil] at hr; subst hr; refine hK _ _ ?_; clear hK K; try simp only [Act.put, List.setIfInBounds_toArray, List.set_cons_zero, List.set_cons_succ]) | (with_reducible refine wpl_load (fun K hK => ?_); refine wp_load_at _ _ rfl _ _ rfl ?_; (first | refine LoadAt.one HM.out 0 rfl (by kernel_rfl) (Nat.le_of_ble_eq_true rfl) ?_ | refine LoadAt.one HM.out 1 rfl (by kernel_rfl) (Nat.le_of_ble_eq_true rfl) ?_ | refine LoadAt.one HM.out 2 rfl (by kernel_rfl) (Nat.le_of_ble_eq_true rfl) ?_); intro v hv; simp only [List.getElem?_cons_zero, List.getElem?_cons_succ, Option.some.injEq] at hv; subst hv; refine hK _ _ ?_; clear hK K; try simp only [Act.put, List.setIfInBounds_toArray, List.set_cons_zero, List.set_cons_succ]) | (with_reducible refine wpl_store (ty := 57) (fun K hK => ?_); refine wp_store_at _ _ _ rfl _ _ rfl (.agg (List.toArray _)) rfl ?_; (first | refine StoreAt.row HM.out 0 rfl (Nat.le_of_ble_eq_true rfl) (by kernel_rfl) rfl ?_ | refine StoreAt.row HM.out 1 rfl (Nat.le_of_ble_eq_true rfl) (by kernel_rfl) rfl ?_ | refine StoreAt.row HM.out 2 rfl (Nat.le_of_ble_eq_true rfl) (by kernel_rfl) rfl ?_); intro w9 new hnew hm; simp only [setAll, overlay] at hnew; subst hnew; simp only [List.set_cons_zero, List.set_cons_succ] at hm; clear HM; have HM := Lib.hid hm; clear hm; refine hK _ _ ?_; clear hK K; try simp only [Act.put, List.setIfInBounds_toArray, List.set_cons_zero, List.set_cons_succ]) | (with_reducible refine wpl_box (ty := 57) (fun K hK => ?_); refine wp_box_ma _ _ rfl HM.out _ rfl ?_; intro w9 kb9 hm; clear HM; have HM := Lib.hid hm; clear hm; refine hK _ _ ?_; clear hK K; try simp only [Act.put, List.setIfInBounds_toArray, List.set_cons_zero, List.set_cons_succ]) | fail)
        exact bodyPost_ret (v := _) (results_blk2 rfl _ (HM.out.at_ 2 rfl) _ _ rfl rfl Try.underlying57 rfl (by kernel_rfl)) rfl (DecP.no HD.out rfl (HM.out.to_below (fun _ _ h => h)))
      | some zs =>
        obtain ⟨Z, s⟩ := zs
        have hc := HRD.out
        rw [hrd] at hc
        obtain ⟨z, hz⟩ : ∃ z, z = zag Z := ⟨_, rfl⟩
        have HC : Hid (Calls Try.prog 40 #[.slice (some ⟨b, o6, none⟩) n6 c6] wr fun e w' => e = .returned (.tuple #[.int .i64 z, .int .i64 (s : Int)]) ∧ wr = w') := Lib.hid (by rw [hz]; exact hc)
        have hv := vint_rd (bs := rest) (fun q hq => by have := bounds_u8 (HF.out.2.2.2.1 q hq); omega) hrd
        have hln := HF.out.2.2.1.len
        have HS : Hid (0 < s ∧ s ≤ n6 ∧ Prog m bs (j + 1) (rest.drop s) (L1.set j z)) := Lib.hid ⟨hv.2.2.2, by omega, by rw [hz]; exact HF.out.2.2.2.2.2.next HJ2.out HLJ.out hrd⟩
        have HOD : Hid (okK .u8 (rest.drop s)) := Lib.hid (fun q hq => HF.out.2.2.2.1 q (List.mem_of_mem_drop hq))
        have HW : Hid (wrap64 ((j : Int) + 1) = ((j + 1 : Nat) : Int)) := Lib.hid (by have h0 := HJ2.out; have h1 := HL0.out; have h2 := rnums_len r; rw [← h1.1, ← h1.2] at h2; unfold wrap64; omega)
        have u0 : ((s : Int) == 0) = false := by have := HS.out.1; simp; omega
        have u1 : (0 : Int) ≤ (s : Int) := by omega
        have u2 : (s : Int) ≤ (n6 : Int) := by have := HS.out.2.1; omega
        clear hc hrd HRD hz hv hln
        go_wp2_with (first | (go_at_call 40; refine (HC.out).mono ?_; rintro e wq ⟨rfl, rfl⟩) | fail)
        refine wp_region_noPanic ?_
        refine wp_region_held_drew (S := (fun _ => True)) (by kernel_rfl) ?_ (fun hHeld => ?_)
        · exact trivial
        have hm := HM.out.drew
        clear HM
        have HM := Lib.hid hm
        clear hm
        refine wpAnyH_take (i := 0) (oi := ⟨_, _, _, _, _, _⟩) (v := ?_) rfl (by kernel_rfl) (by kernel_rfl) (by kernel_rfl) (fun _ _ _ h => h) (Or.inl ⟨by rfl, ?_⟩) (by assumption) ?_
        rotate_left
        · intro w hSw; (try dsimp only at hSw); go_split_ands; go_simp; try with_reducible rfl
        try simp only [Act.put, List.setIfInBounds_toArray, List.set_cons_zero, List.set_cons_succ]
        refine wpAnyH_take (i := 1) (oi := ⟨_, _, _, _, _, _⟩) (v := ?_) rfl (by kernel_rfl) (by kernel_rfl) (by kernel_rfl) (fun _ _ _ h => h) (Or.inl ⟨by rfl, ?_⟩) (by assumption) ?_
        rotate_left
        · intro w hSw; (try dsimp only at hSw); go_split_ands; go_simp; try with_reducible rfl
        try simp only [Act.put, List.setIfInBounds_toArray, List.set_cons_zero, List.set_cons_succ]
        refine wpAnyH_take (i := 2) (oi := ⟨_, _, _, _, _, _⟩) (v := ?_) rfl (by kernel_rfl) (by kernel_rfl) (by kernel_rfl) (fun _ _ _ h => h) (Or.inl ⟨by rfl, ?_⟩) (by assumption) ?_
        rotate_left
        · intro w hSw; (try dsimp only at hSw); go_split_ands; go_simp; try with_reducible rfl
        try simp only [Act.put, List.setIfInBounds_toArray, List.set_cons_zero, List.set_cons_succ]
        refine wpAnyH_take (i := 3) (oi := ⟨_, _, _, _, _, _⟩) (v := ?_) rfl (by kernel_rfl) (by kernel_rfl) (by kernel_rfl) (fun _ _ _ h => h) (Or.inl ⟨by rfl, ?_⟩) (by assumption) ?_
        rotate_left
        · intro w hSw; (try dsimp only at hSw); go_split_ands; go_simp; try with_reducible rfl
        try simp only [Act.put, List.setIfInBounds_toArray, List.set_cons_zero, List.set_cons_succ]
        refine wpAnyH_take (i := 4) (oi := ⟨_, _, _, _, _, _⟩) (v := ?_) rfl (by kernel_rfl) (by kernel_rfl) (by kernel_rfl) (fun _ _ _ h => h) (Or.inl ⟨by rfl, ?_⟩) (by assumption) ?_
        rotate_left
        · intro w hSw; (try dsimp only at hSw); go_split_ands; go_simp; try with_reducible rfl
        try simp only [Act.put, List.setIfInBounds_toArray, List.set_cons_zero, List.set_cons_succ]
        refine wpAnyH_take (i := 5) (oi := ⟨_, _, _, _, _, _⟩) (v := ?_) rfl (by kernel_rfl) (by kernel_rfl) (by kernel_rfl) (fun _ _ _ h => h) (Or.inl ⟨by rfl, ?_⟩) (by assumption) ?_
        rotate_left
        · intro w hSw; (try dsimp only at hSw); go_split_ands; go_simp; try with_reducible rfl
        try simp only [Act.put, List.setIfInBounds_toArray, List.set_cons_zero, List.set_cons_succ]
        refine wpAnyH_take (i := 6) (oi := ⟨_, _, _, _, _, _⟩) (v := ?_) rfl (by kernel_rfl) (by kernel_rfl) (by kernel_rfl) (fun _ _ _ h => h) (Or.inl ⟨by rfl, ?_⟩) (by assumption) ?_
        rotate_left
        · intro w hSw; (try dsimp only at hSw); go_split_ands; go_simp; try with_reducible rfl
        try simp only [Act.put, List.setIfInBounds_toArray, List.set_cons_zero, List.set_cons_succ]
        refine wpAnyH_ready (rs := [7]) (by kernel_rfl) (by simp) ?_
        refine AllReadyH.cons (o := ⟨_, _, _, _, _, _⟩) rfl (fun K hK => ?_) AllReadyH.nil
        refine step_m rfl ?_
        refine wp_store_at _ _ _ rfl g j rfl (.int .i64 z) rfl ?_
        refine StoreAt.one HM.out 0 rfl (by have := HLJ.out; have := HJ2.out; simp [iv]; omega) rfl (by kernel_rfl) rfl ?_
        intro w9 new hnew hm
        rw [iv_set] at hnew
        subst hnew
        simp only [List.set_cons_zero, List.set_cons_succ] at hm
        clear HM
        have HM := Lib.hid hm
        clear hm
        refine hK.out _ _ ?_ (fun hHeld => ?_)
        · exact trivial
        clear hK K
        try simp only [Act.put, List.setIfInBounds_toArray, List.set_cons_zero, List.set_cons_succ]
        refine wpAnyH_take (i := 8) (oi := ⟨_, _, _, _, _, _⟩) (v := ?_) rfl (by kernel_rfl) (by kernel_rfl) (by kernel_rfl) (fun _ _ _ h => h) (Or.inl ⟨by rfl, ?_⟩) (by assumption) ?_
        rotate_left
        · intro w hSw; (try dsimp only at hSw); go_split_ands; go_simp; try with_reducible rfl
        try simp only [Act.put, List.setIfInBounds_toArray, List.set_cons_zero, List.set_cons_succ]
        refine wpAnyH_done (by kernel_rfl) ?_ _
        refine NoPanic.normal ?_
        go_wp2_with fail
        all_goals
          go_roundg (gk - 1)
          case measure => have := HJ.out; have := HJ2.out; omega
          case rel => first
            | exact ⟨j + 1, _, _, _, rest.drop s, L1.set j z, by have := HJ.out; have := HJ2.out; omega, rfl, by rw [HW.out], Lib.hid ⟨by have := HF.out.1; omega, by have := HF.out.1; have := HF.out.2.1; omega, HF.out.2.2.1.drop s HS.out.2.1, HOD.out, by simp; exact HLJ.out, HS.out.2.2⟩, HM⟩
            | exact ⟨j + 1, _, _, _, rest.drop s, L1.set j z, by have := HJ.out; have := HJ2.out; omega, rfl, by rw [HW.out], Lib.hid ⟨by have := HF.out.1; omega, by have := HF.out.1; have := HF.out.2.1; omega, rest_all HF.out.2.2.1 s (by have := HF.out.1; have := HS.out.2.1; omega) _ _ rfl, HOD.out, by simp; exact HLJ.out, HS.out.2.2⟩, HM⟩
    · have t5 : decide ((j : Int) < (m : Int)) = false := by simp; omega
      have t6 : ¬ (j : Int) < (m : Int) := by omega
      have hjm : j = m := by omega
      have HPR : Hid (rdn m bs = some (L1, rest)) := Lib.hid (by
        have h := HF.out.2.2.2.2.2.2 [] rest (by rw [hjm, Nat.sub_self]; rfl)
        rwa [List.append_nil, List.take_of_length_le (by have := HLJ.out; omega)] at h)
      have hln := HF.out.2.2.1.len
      by_cases hz : n6 = 0
      · have v0 : decide ((0 : Int) < (n6 : Int)) = false := by simp; omega
        have HD : Hid (dec (x :: bs) = some (fil (hdr x) L1)) := Lib.hid (by
          have e : rest = [] := List.eq_nil_of_length_eq_zero (by omega)
          have h := HPR.out
          rw [e] at h
          simp only [dec]
          rw [if_pos HG.out, ← HRX.out, ← HL0.out.1, ← HL0.out.2, h])
        have HFI : Hid (∀ W, Blk W g 3 (iv L1).toArray → Calls Try.prog 67 #[.agg #[.int .i64 r.k, .int .i64 r.ck, .int .i64 r.pi, .int .i64 r.px, .int .i64 r.py, .int .i64 r.si, .int .i64 r.sl, .int .i64 r.sh, .int .i64 r.q.qk, .int .i64 r.q.b1, .int .i64 r.q.b2, .int .i64 r.q.b3, .int .i64 r.q.b4, .int .i64 r.q.w1, .int .i64 r.q.w2, .int .i64 r.q.w3, .int .i64 r.q.x, .int .i64 r.q.h], .slice (some ⟨g, 0, none⟩) m m] W fun e w' => e = .returned (fil (hdr x) L1).v ∧ Below W.heap.size W w') := Lib.hid (fun W hW => by
          have h := fil_any x HX.out HG.out g L1 W (by rw [← HRX.out, ← HL0.out.1, ← HL0.out.2]; exact HLJ.out) hW
          rw [HLJ.out] at h
          rw [HRX.out]
          exact h)
        obtain ⟨R, hR⟩ : ∃ R : Rq, R = fil (hdr x) L1 := ⟨_, rfl⟩
        rw [← hR] at HFI HD
        clear hjk hlt hjm hln hR v0
        subst hz
        go_wp2_with (first | (go_at_call 67; refine (HFI.out _ (HM.out.at_ 0 rfl)).mono ?_; rintro e wx ⟨rfl, hb⟩; have hm := HM.out.below hb; clear HM; have HM := Lib.hid hm; clear hm hb; unfold Rq.v) | (with_reducible refine wpl_load (ty := 57) (fun K hK => ?_); refine wp_load_at _ _ rfl _ _ rfl ?_; (first | refine LoadAt.row (n := 18) HM.out 0 rfl (by kernel_rfl) (by kernel_rfl) (Nat.le_of_ble_eq_true rfl) ?_ | refine LoadAt.row (n := 18) HM.out 1 rfl (by kernel_rfl) (by kernel_rfl) (Nat.le_of_ble_eq_true rfl) ?_ | refine LoadAt.row (n := 18) HM.out 2 rfl (by kernel_rfl) (by kernel_rfl) (Nat.le_of_ble_eq_true rfl) ?_); intro r hr; simp only [List.drop_zero, List.drop_succ_cons, List.take_zero, List.take_succ_cons, List.take_nil] at hr; subst hr; refine hK _ _ ?_; clear hK K; try simp only [Act.put, List.setIfInBounds_toArray, List.set_cons_zero, List.set_cons_succ]) | (with_reducible refine wpl_load (fun K hK => ?_); refine wp_load_at _ _ rfl _ _ rfl ?_; (first | refine LoadAt.one HM.out 0 rfl (by kernel_rfl) (Nat.le_of_ble_eq_true rfl) ?_ | refine LoadAt.one HM.out 1 rfl (by kernel_rfl) (Nat.le_of_ble_eq_true rfl) ?_ | refine LoadAt.one HM.out 2 rfl (by kernel_rfl) (Nat.le_of_ble_eq_true rfl) ?_); intro v hv; simp only [List.getElem?_cons_zero, List.getElem?_cons_succ, Option.some.injEq] at hv; subst hv; refine hK _ _ ?_; clear hK K; try simp only [Act.put, List.setIfInBounds_toArray, List.set_cons_zero, List.set_cons_succ]) | (with_reducible refine wpl_store (ty := 57) (fun K hK => ?_); refine wp_store_at _ _ _ rfl _ _ rfl (.agg (List.toArray _)) rfl ?_; (first | refine StoreAt.row HM.out 0 rfl (Nat.le_of_ble_eq_true rfl) (by kernel_rfl) rfl ?_ | refine StoreAt.row HM.out 1 rfl (Nat.le_of_ble_eq_true rfl) (by kernel_rfl) rfl ?_ | refine StoreAt.row HM.out 2 rfl (Nat.le_of_ble_eq_true rfl) (by kernel_rfl) rfl ?_); intro w9 new hnew hm; simp only [setAll, overlay] at hnew; subst hnew; simp only [List.set_cons_zero, List.set_cons_succ] at hm; clear HM; have HM := Lib.hid hm; clear hm; refine hK _ _ ?_; clear hK K; try simp only [Act.put, List.setIfInBounds_toArray, List.set_cons_zero, List.set_cons_succ]) | (with_reducible refine wpl_box (ty := 57) (fun K hK => ?_); refine wp_box_ma _ _ rfl HM.out _ rfl ?_; intro w9 kb9 hm; clear HM; have HM := Lib.hid hm; clear hm; refine hK _ _ ?_; clear hK K; try simp only [Act.put, List.setIfInBounds_toArray, List.set_cons_zero, List.set_cons_succ]) | fail)
        exact bodyPost_ret (v := _) (results_blk2 rfl _ (HM.out.at_ 2 rfl) _ _ rfl rfl Try.underlying57 rfl (by kernel_rfl)) rfl (DecP.yes HD.out rfl (HM.out.to_below (fun _ _ h => h)))
      · have v0 : decide ((0 : Int) < (n6 : Int)) = true := by simp; omega
        have v1 : (0 : Int) < (n6 : Int) := by omega
        have HD : Hid (dec (x :: bs) = none) := Lib.hid (by
          obtain ⟨y, ys, e⟩ : ∃ y ys, rest = y :: ys := by
            cases rest with
            | nil => simp at hln; omega
            | cons y ys => exact ⟨y, ys, rfl⟩
          have h := HPR.out
          rw [e] at h
          simp only [dec]
          rw [if_pos HG.out, ← HRX.out, ← HL0.out.1, ← HL0.out.2, h])
        clear hjk hlt hjm hln hz
        go_wp2_with (first | (with_reducible refine wpl_load (ty := 57) (fun K hK => ?_); refine wp_load_at _ _ rfl _ _ rfl ?_; (first | refine LoadAt.row (n := 18) HM.out 0 rfl (by kernel_rfl) (by kernel_rfl) (Nat.le_of_ble_eq_true rfl) ?_ | refine LoadAt.row (n := 18) HM.out 1 rfl (by kernel_rfl) (by kernel_rfl) (Nat.le_of_ble_eq_true rfl) ?_ | refine LoadAt.row (n := 18) HM.out 2 rfl (by kernel_rfl) (by kernel_rfl) (Nat.le_of_ble_eq_true rfl) ?_); intro r hr; simp only [List.drop_zero, List.drop_succ_cons, List.take_zero, List.take_succ_cons, List.take_nil] at hr; subst hr; refine hK _ _ ?_; clear hK K; try simp only [Act.put, List.setIfInBounds_toArray, List.set_cons_zero, List.set_cons_succ]) | (with_reducible refine wpl_load (fun K hK => ?_); refine wp_load_at _ _ rfl _ _ rfl ?_; (first | refine LoadAt.one HM.out 0 rfl (by kernel_rfl) (Nat.le_of_ble_eq_true rfl) ?_ | refine LoadAt.one HM.out 1 rfl (by kernel_rfl) (Nat.le_of_ble_eq_true rfl) ?_ | refine LoadAt.one HM.out 2 rfl (by kernel_rfl) (Nat.le_of_ble_eq_true rfl) ?_); intro v hv; simp only [List.getElem?_cons_zero, List.getElem?_cons_succ, Option.some.injEq] at hv; subst hv; refine hK _ _ ?_; clear hK K; try simp only [Act.put, List.setIfInBounds_toArray, List.set_cons_zero, List.set_cons_succ]) | (with_reducible refine wpl_store (ty := 57) (fun K hK => ?_); refine wp_store_at _ _ _ rfl _ _ rfl (.agg (List.toArray _)) rfl ?_; (first | refine StoreAt.row HM.out 0 rfl (Nat.le_of_ble_eq_true rfl) (by kernel_rfl) rfl ?_ | refine StoreAt.row HM.out 1 rfl (Nat.le_of_ble_eq_true rfl) (by kernel_rfl) rfl ?_ | refine StoreAt.row HM.out 2 rfl (Nat.le_of_ble_eq_true rfl) (by kernel_rfl) rfl ?_); intro w9 new hnew hm; simp only [setAll, overlay] at hnew; subst hnew; simp only [List.set_cons_zero, List.set_cons_succ] at hm; clear HM; have HM := Lib.hid hm; clear hm; refine hK _ _ ?_; clear hK K; try simp only [Act.put, List.setIfInBounds_toArray, List.set_cons_zero, List.set_cons_succ]) | (with_reducible refine wpl_store (ty := 3) (fun K hK => ?_); refine wp_store_at _ _ _ rfl _ _ rfl (.int _ _) rfl ?_; (first | refine StoreAt.one HM.out 0 rfl (Nat.le_of_ble_eq_true rfl) rfl (by kernel_rfl) rfl ?_ | refine StoreAt.one HM.out 1 rfl (Nat.le_of_ble_eq_true rfl) rfl (by kernel_rfl) rfl ?_ | refine StoreAt.one HM.out 2 rfl (Nat.le_of_ble_eq_true rfl) rfl (by kernel_rfl) rfl ?_); intro w9 new hnew hm; simp only [List.set_cons_zero, List.set_cons_succ] at hnew; subst hnew; simp only [List.set_cons_zero, List.set_cons_succ] at hm; clear HM; have HM := Lib.hid hm; clear hm; refine hK _ _ ?_; clear hK K; try simp only [Act.put, List.setIfInBounds_toArray, List.set_cons_zero, List.set_cons_succ]) | (with_reducible refine wpl_alloc (ty := 57) (fun K hK => ?_); refine wp_alloc_ma 57 rfl HM.out [.int .i64 0, .int .i64 0, .int .i64 0, .int .i64 0, .int .i64 0, .int .i64 0, .int .i64 0, .int .i64 0, .int .i64 0, .int .i64 0, .int .i64 0, .int .i64 0, .int .i64 0, .int .i64 0, .int .i64 0, .int .i64 0, .int .i64 0, .int .i64 0] (by kernel_rfl) ?_; intro w9 k9 hm; clear HM; have HM := Lib.hid hm; clear hm; refine hK _ _ ?_; clear hK K; try simp only [Act.put, List.setIfInBounds_toArray, List.set_cons_zero, List.set_cons_succ]) | (with_reducible refine wpl_box (ty := 57) (fun K hK => ?_); refine wp_box_ma _ _ rfl HM.out _ rfl ?_; intro w9 kb9 hm; clear HM; have HM := Lib.hid hm; clear hm; refine hK _ _ ?_; clear hK K; try simp only [Act.put, List.setIfInBounds_toArray, List.set_cons_zero, List.set_cons_succ]) | (with_reducible refine wpl_box (ty := 3) (fun K hK => ?_); refine wp_box_m1 _ _ rfl HM.out (.int _ _) rfl rfl ?_; intro w9 kb9 hm; clear HM; have HM := Lib.hid hm; clear hm; refine hK _ _ ?_; clear hK K; try simp only [Act.put, List.setIfInBounds_toArray, List.set_cons_zero, List.set_cons_succ]) | fail)
        exact bodyPost_ret (v := _) (results_blk2 rfl _ (HM.out.at_ 2 rfl) _ _ rfl rfl Try.underlying57 rfl (by kernel_rfl)) rfl (DecP.no HD.out rfl (HM.out.to_below (fun _ _ h => h)))
end Go.Proofs.Ytencgokpbfkeiaa
