/- A list of blocks that a function works with, each by its number, its type and its cells; operations on memory as laws over that list. No program in sight. -/
import Derived.Test.YtencgokpbfkeiaaZ
import Derived.Laws.ResultCell
set_option linter.unusedVariables false
namespace Go.Proofs.Ytencgokpbfkeiaa
open Go.ChangeShapes Go.WideShapes Go.ChangeAt Go.RowKit
/-- a block that is known: its number, its type, its cells, whether it may be written -/
structure Ent where
  g : Nat
  t : TypeId
  cs : List Value
  rw : Bool
/-- what is known of memory: since w0 nothing but the blocks of S and new ones has changed; these blocks hold these cells -/
structure Mem (S : Nat → Prop) (w0 : World) (l : List Ent) (w : World) : Prop where
  only : Only S w0 w
  blk : ∀ e ∈ l, Blk w e.g e.t e.cs.toArray
  nodup : (l.map Ent.g).Nodup
  may : ∀ e ∈ l, e.rw = true → S e.g ∨ w0.heap.size ≤ e.g
theorem Mem.start (S : Nat → Prop) (w : World) : Mem S w [] w := ⟨Only.refl _ _, by simp, by simp, by simp⟩
theorem Mem.old {S : Nat → Prop} {w0 w : World} {l : List Ent} (h : Mem S w0 l w) {g : Nat} {t : TypeId} {cs : List Value} (hb : Blk w g t cs.toArray) (hn : ∀ e ∈ l, e.g ≠ g) (b : Bool) (hS : b = true → S g ∨ w0.heap.size ≤ g) : Mem S w0 (⟨g, t, cs, b⟩ :: l) w where
  only := h.only
  blk := by intro e he; rcases List.mem_cons.1 he with rfl | he; exact hb; exact h.blk e he
  nodup := by simp only [List.map_cons, List.nodup_cons]; exact ⟨fun hm => by obtain ⟨e, he, hg⟩ := List.mem_map.1 hm; exact hn e he hg, h.nodup⟩
  may := by intro e he hr; rcases List.mem_cons.1 he with rfl | he; exact hS hr; exact h.may e he hr
theorem Mem.new {S : Nat → Prop} {w0 w : World} {l : List Ent} (h : Mem S w0 l w) (t : TypeId) (cs : List Value) : Mem S w0 (⟨w.heap.size, t, cs, true⟩ :: l) (w.alloc (.cells cs.toArray t)) where
  only := h.only.alloc _
  blk := by intro e he; rcases List.mem_cons.1 he with rfl | he; exact Blk.new w t _; exact (h.blk e he).alloc _
  nodup := by
    simp only [List.map_cons, List.nodup_cons]
    refine ⟨fun hm => ?_, h.nodup⟩
    obtain ⟨e, he, hg⟩ := List.mem_map.1 hm
    have := (h.blk e he).lt
    omega
  may := by intro e he hr; rcases List.mem_cons.1 he with rfl | he; exact .inr h.only.size; exact h.may e he hr
theorem Mem.same {S : Nat → Prop} {w0 w w' : World} {l : List Ent} (h : Mem S w0 l w) (ho : Only (fun _ => False) w w') : Mem S w0 l w' where
  only := h.only.trans ho (fun _ _ h => h.elim)
  blk := fun e he => ho.blk (h.blk e he) (fun h => h)
  nodup := h.nodup
  may := h.may
theorem Mem.below {S : Nat → Prop} {w0 w w' : World} {l : List Ent} (h : Mem S w0 l w) (ho : Below w.heap.size w w') : Mem S w0 l w' := h.same (Only.of_below ho)
theorem Mem.drew {S : Nat → Prop} {w0 w : World} {l : List Ent} (h : Mem S w0 l w) : Mem S w0 l w.drew := h.same (Only.refl _ _).drew
theorem Mem.drewN {S : Nat → Prop} {w0 w : World} {l : List Ent} (h : Mem S w0 l w) (n : Nat) : Mem S w0 l (w.drewN n) := h.same ((Only.refl _ _).drewN n)
theorem Mem.at_ {S : Nat → Prop} {w0 w : World} {l : List Ent} (h : Mem S w0 l w) (i : Nat) {e : Ent} (he : l[i]? = some e) : Blk w e.g e.t e.cs.toArray := h.blk e (List.mem_of_getElem? he)
theorem Mem.tail {S : Nat → Prop} {w0 w : World} {l : List Ent} {e : Ent} (h : Mem S w0 (e :: l) w) : Mem S w0 l w := ⟨h.only, fun x hx => h.blk x (List.mem_cons_of_mem _ hx), (List.nodup_cons.1 (by simpa using h.nodup)).2, fun x hx => h.may x (List.mem_cons_of_mem _ hx)⟩
theorem Mem.swap {S : Nat → Prop} {w0 w : World} {l : List Ent} {a b : Ent} (h : Mem S w0 (a :: b :: l) w) : Mem S w0 (b :: a :: l) w where
  only := h.only
  blk := fun e he => h.blk e (by simp only [List.mem_cons] at he ⊢; grind)
  nodup := by have := h.nodup; simp only [List.map_cons, List.nodup_cons, List.mem_cons] at this ⊢; obtain ⟨h1, h2, h3⟩ := this; exact ⟨fun h => h.elim (fun h => h1 (.inl h.symm)) h2, fun h => h1 (.inr h), h3⟩
  may := fun e he => h.may e (by simp only [List.mem_cons] at he ⊢; grind)
theorem Mem.deep {S : Nat → Prop} {w0 w : World} {l : List Ent} {a b c : Ent} (h : Mem S w0 (a :: b :: c :: l) w) : Mem S w0 (a :: c :: b :: l) w where
  only := h.only
  blk := fun e he => h.blk e (by simp only [List.mem_cons] at he ⊢; grind)
  nodup := by have := h.nodup; simp only [List.map_cons, List.nodup_cons, List.mem_cons] at this ⊢; obtain ⟨h1, h2, h3, h4⟩ := this; exact ⟨fun h => h1 (by grind), fun h => h.elim (fun h => h2 (.inl h.symm)) h3, fun h => h2 (.inr h), h4⟩
  may := fun e he => h.may e (by simp only [List.mem_cons] at he ⊢; grind)
/-- a callee, or a store, that changed one of the blocks alone -/
theorem Mem.put {S : Nat → Prop} {w0 w w' : World} {l : List Ent} (h : Mem S w0 l w) (i : Nat) {g : Nat} {t : TypeId} {cs : List Value} (he : l[i]? = some ⟨g, t, cs, true⟩) {new : List Value} (hb : Blk w' g t new.toArray) (ho : Only (fun k => k = g) w w') :
    Mem S w0 (l.set i ⟨g, t, new, true⟩) w' := by
  have hi : i < l.length := (List.getElem?_eq_some_iff.1 he).1
  have hei : l[i] = ⟨g, t, cs, true⟩ := (List.getElem?_eq_some_iff.1 he).2
  have hmem := List.mem_of_getElem? he
  have hmap : (l.set i ⟨g, t, new, true⟩).map Ent.g = l.map Ent.g := by
    rw [List.map_set]
    apply List.ext_getElem? 
    intro j
    by_cases hj : i = j
    · subst hj; simp [hi, hei]
    · rw [List.getElem?_set_ne hj]
  refine ⟨h.only.trans ho (fun k hk hkg => ?_), fun e hel => ?_, by rw [hmap]; exact h.nodup, fun e hel hr => ?_⟩
  · subst hkg
    rcases h.may _ hmem rfl with hs | hs
    · exact hs
    · exact absurd hk (by simpa using hs)
  · obtain ⟨j, hj, hje⟩ := List.mem_iff_getElem.1 hel
    by_cases hij : i = j
    · subst hij
      rw [List.getElem_set_self] at hje
      subst hje
      exact hb
    · rw [List.getElem_set_ne hij] at hje
      have hj' : j < l.length := by simpa using hj
      have hne : e.g ≠ g := by
        intro hg
        have h1 : (l.map Ent.g)[i]'(by simpa using hi) = (l.map Ent.g)[j]'(by simpa using hj') := by simp [hei, hje, hg]
        have hp := List.pairwise_iff_getElem.1 h.nodup
        rcases Nat.lt_or_gt_of_ne hij with q | q
        · exact hp i j (by simpa using hi) (by simpa using hj') q h1
        · exact hp j i (by simpa using hj') (by simpa using hi) q h1.symm
      exact ho.blk (h.blk e (hje ▸ List.getElem_mem hj')) hne
  · obtain ⟨j, hj, hje⟩ := List.mem_iff_getElem.1 hel
    by_cases hij : i = j
    · subst hij
      rw [List.getElem_set_self] at hje
      subst hje
      exact (h.may _ hmem rfl : S g ∨ w0.heap.size ≤ g)
    · rw [List.getElem_set_ne hij] at hje
      exact h.may e (hje ▸ List.getElem_mem (by simpa using hj)) hr
theorem Mem.to_below {S : Nat → Prop} {w0 w : World} {l : List Ent} (h : Mem S w0 l w) (hS : ∀ i, i < w0.heap.size → ¬ S i) : Below w0.heap.size w0 w := h.only.below (Nat.le_refl _) hS
/-- a list with some of its cells written over -/
def overlay : List Value → List Value → List Value
  | c, [] => c
  | [], _ => []
  | _ :: c, v :: vs => v :: overlay c vs
def setAll : List Value → Nat → List Value → List Value
  | c, 0, vs => overlay c vs
  | [], _ + 1, _ => []
  | x :: c, o + 1, vs => x :: setAll c o vs
theorem overlay_eq : ∀ (vs c : List Value), vs.length ≤ c.length → overlay c vs = vs ++ c.drop vs.length
  | [], c, _ => by cases c <;> simp [overlay]
  | v :: vs, [], h => by simp at h
  | v :: vs, x :: c, h => by simp only [overlay, List.cons_append, List.length_cons, List.drop_succ_cons]; rw [overlay_eq vs c (by simpa using h)]
theorem setAll_eq : ∀ (o : Nat) (c vs : List Value), o + vs.length ≤ c.length → setAll c o vs = splice c o vs
  | 0, c, vs, h => by simp [setAll, splice, overlay_eq vs c (by omega)]
  | o + 1, [], vs, h => by simp at h
  | o + 1, x :: c, vs, h => by
      simp only [setAll]
      rw [setAll_eq o c vs (by simp at h; omega)]
      have e : o + 1 + vs.length = (o + vs.length) + 1 := by omega
      simp [splice, e]
theorem set_one : ∀ (cs : List Value) (o : Nat) (v : Value), o + 1 ≤ cs.length → cs.set o v = splice cs o [v]
  | [], o, v, h => by simp at h
  | c :: cs, 0, v, h => by simp [splice]
  | c :: cs, o + 1, v, h => by
      have e : o + 1 + 1 = (o + 1) + 1 := rfl
      have ih := set_one cs o v (by simpa using h)
      simp only [List.set_cons_succ, ih, splice, List.take_succ_cons, List.length_cons, List.length_nil, List.cons_append]
      simp
section laws
variable {P : Program} {S : Nat → Prop} {w0 w : World} {l : List Ent} {g : Nat} {t : TypeId} {cs : List Value} {b : Bool}
/-- the load of a whole struct -/
theorem wp_load_mv {op : Oper} {a : Act} {K : Act → World → Prop} {Q : Exit → Act → World → Prop} (ty : TypeId) (x : Operand) (ho : op.op = .load ty x)
    (hM : Mem S w0 l w) (i : Nat) (he : l[i]? = some ⟨g, t, cs, b⟩) (o : Nat) (hx : a.eval x = .pointer (some ⟨g, o, none⟩)) (n : Nat) (hn : o + n ≤ cs.length)
    (hd : (P.underlying ty).map (·.isRow) = some true) (hi : (P.info? ty).map (·.size) = some n)
    (h : ∀ r, r = (cs.drop o).take n → K (a.put op.dst (.agg r.toArray)) w) : op.wp P a w K Q := by
  cases hu : P.underlying ty with
  | none => rw [hu] at hd; cases hd
  | some d =>
    rw [hu] at hd
    have hlen : ((cs.drop o).take n).length = n := by simp; omega
    exact wp_load_mid ty x ho g o hx ((cs.drop o).take n) d (range_of_blk (hM.at_ i he) o n _ (by simp)) hu (by simpa using hd) (by rw [hlen]; exact hi) (h _ rfl)
theorem run_loadVar_one (w : World) (ad : Addr) (ty : TypeId) (v : Value) (d : TypeDesc) (hc : w.cell? ad = some v) (hu : P.underlying ty = some d) (hd : d.isRow = false) :
    (loadVar ty ad).run P w = .ok v w := by
  have hagg : (isAgg ty).run P w = .ok false w := by
    unfold isAgg
    rw [Sem.run_bind, run_underlying hu w]
    cases d <;> simp_all
  simp [loadVar, Sem.run_bind, hagg, hc]
/-- the load of one cell -/
theorem wp_load_m1 {op : Oper} {a : Act} {K : Act → World → Prop} {Q : Exit → Act → World → Prop} (ty : TypeId) (x : Operand) (ho : op.op = .load ty x)
    (hM : Mem S w0 l w) (i : Nat) (he : l[i]? = some ⟨g, t, cs, b⟩) (o : Nat) (hx : a.eval x = .pointer (some ⟨g, o, none⟩)) (hn : o < cs.length)
    (hd : (P.underlying ty).map (·.isRow) = some false)
    (h : ∀ v, cs[o]? = some v → K (a.put op.dst v) w) : op.wp P a w K Q := by
  cases hu : P.underlying ty with
  | none => rw [hu] at hd; cases hd
  | some d =>
    rw [hu] at hd
    have hc : w.cell? ⟨g, o, none⟩ = some cs[o] := by rw [(hM.at_ i he).cell]; simp [hn]
    unfold Oper.wp execOp
    simp only [ho, hx, Instr.loadAt, Instr.sureAddr, Sem.run_bind, Sem.run_pure, Result.andThen_ok, run_loadVar_one w ⟨g, o, none⟩ ty _ d hc hu (by simpa using hd)]
    exact h _ (List.getElem?_eq_getElem hn)
theorem run_storeVar_any (w : World) (b o : Nat) (ty : TypeId) (v : Value) (vs : List Value) (hv : v.cells.toList = vs) (ht : w.there b o vs.length) (hi : (P.info? ty).map (·.size) = some vs.length) (h1 : vs.all (·.oneCell') = true) :
    (storeVar ty ⟨b, o, none⟩ v).run P w = .ok () (w.setCells b o vs) := by
  have := run_storeCells_cells (P := P) b o vs 0 w (fun j hj => by simpa using (ht j hj).1) (fun j hj => by simpa using (ht j hj).2)
    (fun v hv => (List.all_eq_true.1 h1) v hv)
  cases hq : P.info? ty with
  | none => simp [hq] at hi
  | some i =>
    have hs : v.cells.size = i.size := by rw [hq] at hi; simp only [Option.map_some, Option.some.injEq] at hi; rw [hi, ← hv]; simp
    simp only [Nat.add_zero] at this
    simp [storeVar, sizeOf, typeInfo, hq, hs, hv, this]
/-- the store of a value, whatever it is -/
theorem wp_store_m {op : Oper} {a : Act} {K : Act → World → Prop} {Q : Exit → Act → World → Prop} (ty : TypeId) (x y : Operand) (ho : op.op = .store ty x y)
    (hM : Mem S w0 l w) (i : Nat) (he : l[i]? = some ⟨g, t, cs, true⟩) (o : Nat) (hx : a.eval x = .pointer (some ⟨g, o, none⟩)) (v : Value) (hy : a.eval y = v) (vs : List Value) (hv : v.cells.toList = vs) (hn : o + vs.length ≤ cs.length)
    (hi : (P.info? ty).map (·.size) = some vs.length) (h1 : vs.all (·.oneCell') = true)
    (h : ∀ w' new, new = setAll cs o vs → Mem S w0 (l.set i ⟨g, t, new, true⟩) w' → K (a.put op.dst undef) w') : op.wp P a w K Q := by
  have hb := hM.at_ i he
  unfold Oper.wp execOp
  simp only [ho, hx, hy, Instr.storeAt, Instr.sureAddr, Sem.run_bind, Sem.run_pure, Result.andThen_ok, run_storeVar_any w g o ty v vs hv (there_of_blk hb o _ (by simpa using hn)) hi h1]
  refine h _ _ rfl (hM.put i he ?_ (only_setCells _ _ _ _ (Only.refl _ _)))
  have hk := blk_setCells vs o w cs.toArray hb (by simpa using hn)
  rw [setAll_eq o cs vs hn]
  simpa using hk
/-- a new variable -/
theorem wp_alloc_m {op : Oper} {a : Act} {K : Act → World → Prop} {Q : Exit → Act → World → Prop} (ty : TypeId) (ho : op.op = .alloc ty)
    (hM : Mem S w0 l w) (v : Value) (hz : (P.info? ty).map (·.zero) = some (some v)) (vs : List Value) (hv : v.cells.toList = vs)
    (h : ∀ w' k, Mem S w0 (⟨k, ty, vs, true⟩ :: l) w' → K (a.put op.dst (.pointer (some ⟨k, 0, none⟩))) w') : op.wp P a w K Q := by
  cases hq : P.info? ty with
  | none => simp [hq] at hz
  | some i =>
    have hz' : i.zero = some v := by simpa [hq] using hz
    have hv' : v.cells = vs.toArray := by rw [← hv]
    have hrun : (Instr.alloc ty true (.tuple #[])).run P w = .ok (.pointer (some ⟨w.heap.size, 0, none⟩)) (w.alloc (.cells vs.toArray ty)) := by
      simp [Instr.alloc, zeroValue, typeInfo, hq, hz', newVar, newRow, hv', Sem.run_bind]
    have := h _ _ (hM.new ty vs)
    unfold Oper.wp execOp
    simp only [ho]
    rw [Sem.run_bind, hrun]
    exact this
/-- a value in a new variable -/
theorem wp_box_m {op : Oper} {a : Act} {K : Act → World → Prop} {Q : Exit → Act → World → Prop} (ty : TypeId) (x : Operand) (ho : op.op = .box ty x)
    (hM : Mem S w0 l w) (v : Value) (hx : a.eval x = v) (vs : List Value) (hv : v.cells.toList = vs)
    (h : ∀ w' k, Mem S w0 (⟨k, ty, vs, true⟩ :: l) w' → K (a.put op.dst (.pointer (some ⟨k, 0, none⟩))) w') : op.wp P a w K Q := by
  have hv' : v.cells = vs.toArray := by rw [← hv]
  have hrun : (Instr.box ty v).run P w = .ok (.pointer (some ⟨w.heap.size, 0, none⟩)) (w.alloc (.cells vs.toArray ty)) := by
    simp [Instr.box, newVar, newRow, hv', Sem.run_bind]
  have := h _ _ (hM.new ty vs)
  unfold Oper.wp execOp
  simp only [ho, hx]
  rw [Sem.run_bind, hrun]
  exact this
theorem wp_store_ma {op : Oper} {a : Act} {K : Act → World → Prop} {Q : Exit → Act → World → Prop} (ty : TypeId) (x y : Operand) (ho : op.op = .store ty x y)
    (hM : Mem S w0 l w) (i : Nat) (he : l[i]? = some ⟨g, t, cs, true⟩) (o : Nat) (hx : a.eval x = .pointer (some ⟨g, o, none⟩)) (vs : List Value) (hy : a.eval y = .agg vs.toArray) (hn : o + vs.length ≤ cs.length)
    (hi : (P.info? ty).map (·.size) = some vs.length) (h1 : vs.all (·.oneCell') = true)
    (h : ∀ w' new, new = setAll cs o vs → Mem S w0 (l.set i ⟨g, t, new, true⟩) w' → K (a.put op.dst undef) w') : op.wp P a w K Q :=
  wp_store_m ty x y ho hM i he o hx (.agg vs.toArray) hy vs rfl hn hi h1 h
theorem wp_store_m1 {op : Oper} {a : Act} {K : Act → World → Prop} {Q : Exit → Act → World → Prop} (ty : TypeId) (x y : Operand) (ho : op.op = .store ty x y)
    (hM : Mem S w0 l w) (i : Nat) (he : l[i]? = some ⟨g, t, cs, true⟩) (o : Nat) (hx : a.eval x = .pointer (some ⟨g, o, none⟩)) (v : Value) (hy : a.eval y = v) (hv : v.cells.toList = [v]) (hn : o + 1 ≤ cs.length)
    (hi : (P.info? ty).map (·.size) = some 1) (h1 : v.oneCell' = true)
    (h : ∀ w' new, new = cs.set o v → Mem S w0 (l.set i ⟨g, t, new, true⟩) w' → K (a.put op.dst undef) w') : op.wp P a w K Q :=
  wp_store_m ty x y ho hM i he o hx v hy [v] hv hn hi (by simp [h1]) (fun w' new hnew hm => h w' new (hnew.trans (by rw [setAll_eq _ _ _ hn]; exact (set_one cs o v hn).symm)) hm)
theorem wp_box_ma {op : Oper} {a : Act} {K : Act → World → Prop} {Q : Exit → Act → World → Prop} (ty : TypeId) (x : Operand) (ho : op.op = .box ty x)
    (hM : Mem S w0 l w) (vs : List Value) (hx : a.eval x = .agg vs.toArray)
    (h : ∀ w' k, Mem S w0 (⟨k, ty, vs, true⟩ :: l) w' → K (a.put op.dst (.pointer (some ⟨k, 0, none⟩))) w') : op.wp P a w K Q := wp_box_m ty x ho hM _ hx vs rfl h
theorem wp_box_m1 {op : Oper} {a : Act} {K : Act → World → Prop} {Q : Exit → Act → World → Prop} (ty : TypeId) (x : Operand) (ho : op.op = .box ty x)
    (hM : Mem S w0 l w) (v : Value) (hx : a.eval x = v) (hv : v.cells.toList = [v])
    (h : ∀ w' k, Mem S w0 (⟨k, ty, [v], true⟩ :: l) w' → K (a.put op.dst (.pointer (some ⟨k, 0, none⟩))) w') : op.wp P a w K Q := wp_box_m ty x ho hM v hx [v] hv h
theorem wp_alloc_ma {op : Oper} {a : Act} {K : Act → World → Prop} {Q : Exit → Act → World → Prop} (ty : TypeId) (ho : op.op = .alloc ty)
    (hM : Mem S w0 l w) (vs : List Value) (hz : (P.info? ty).map (·.zero) = some (some (.agg vs.toArray)))
    (h : ∀ w' k, Mem S w0 (⟨k, ty, vs, true⟩ :: l) w' → K (a.put op.dst (.pointer (some ⟨k, 0, none⟩))) w') : op.wp P a w K Q := wp_alloc_m ty ho hM _ hz vs rfl h
theorem wp_alloc_m1 {op : Oper} {a : Act} {K : Act → World → Prop} {Q : Exit → Act → World → Prop} (ty : TypeId) (ho : op.op = .alloc ty)
    (hM : Mem S w0 l w) (v : Value) (hz : (P.info? ty).map (·.zero) = some (some v)) (hv : v.cells.toList = [v])
    (h : ∀ w' k, Mem S w0 (⟨k, ty, [v], true⟩ :: l) w' → K (a.put op.dst (.pointer (some ⟨k, 0, none⟩))) w') : op.wp P a w K Q := wp_alloc_m ty ho hM _ hz _ hv h
/-- what is read at an address -/
def LoadAt (P : Program) (ty : TypeId) (ad : Addr) (w : World) (k : Value → Prop) : Prop := ∃ v, (loadVar ty ad).run P w = .ok v w ∧ k v
/-- what is written at an address -/
def StoreAt (P : Program) (ty : TypeId) (ad : Addr) (v : Value) (w : World) (k : World → Prop) : Prop := ∃ w', (storeVar ty ad v).run P w = .ok () w' ∧ k w'
theorem wp_load_at {op : Oper} {a : Act} {K : Act → World → Prop} {Q : Exit → Act → World → Prop} (ty : TypeId) (x : Operand) (ho : op.op = .load ty x) (g o : Nat) (hx : a.eval x = .pointer (some ⟨g, o, none⟩))
    (h : LoadAt P ty ⟨g, o, none⟩ w (fun v => K (a.put op.dst v) w)) : op.wp P a w K Q := by
  obtain ⟨v, hr, hk⟩ := h
  unfold Oper.wp execOp
  simp only [ho, hx, Instr.loadAt, Instr.sureAddr, Sem.run_bind, Sem.run_pure, Result.andThen_ok, hr]
  exact hk
theorem wp_store_at {op : Oper} {a : Act} {K : Act → World → Prop} {Q : Exit → Act → World → Prop} (ty : TypeId) (x y : Operand) (ho : op.op = .store ty x y) (g o : Nat) (hx : a.eval x = .pointer (some ⟨g, o, none⟩)) (v : Value) (hy : a.eval y = v)
    (h : StoreAt P ty ⟨g, o, none⟩ v w (fun w' => K (a.put op.dst undef) w')) : op.wp P a w K Q := by
  obtain ⟨w', hr, hk⟩ := h
  unfold Oper.wp execOp
  simp only [ho, hx, hy, Instr.storeAt, Instr.sureAddr, Sem.run_bind, Sem.run_pure, Result.andThen_ok, hr]
  exact hk
theorem LoadAt.one {ty : TypeId} {o : Nat} {k : Value → Prop} (hM : Mem S w0 l w) (i : Nat) (he : l[i]? = some ⟨g, t, cs, b⟩) (hd : (P.underlying ty).map (·.isRow) = some false) (hn : o < cs.length)
    (h : ∀ v, cs[o]? = some v → k v) : LoadAt P ty ⟨g, o, none⟩ w k := by
  cases hu : P.underlying ty with
  | none => rw [hu] at hd; cases hd
  | some d =>
    rw [hu] at hd
    have hc : w.cell? ⟨g, o, none⟩ = some cs[o] := by rw [(hM.at_ i he).cell]; simp [hn]
    exact ⟨_, run_loadVar_one w ⟨g, o, none⟩ ty _ d hc hu (by simpa using hd), h _ (List.getElem?_eq_getElem hn)⟩
theorem LoadAt.row {ty : TypeId} {o n : Nat} {k : Value → Prop} (hM : Mem S w0 l w) (i : Nat) (he : l[i]? = some ⟨g, t, cs, b⟩) (hd : (P.underlying ty).map (·.isRow) = some true) (hi : (P.info? ty).map (·.size) = some n) (hn : o + n ≤ cs.length)
    (h : ∀ r, r = (cs.drop o).take n → k (.agg r.toArray)) : LoadAt P ty ⟨g, o, none⟩ w k := by
  cases hu : P.underlying ty with
  | none => rw [hu] at hd; cases hd
  | some d =>
    rw [hu] at hd
    have hlen : ((cs.drop o).take n).length = n := by simp; omega
    exact ⟨_, run_loadVar_mid w g o ty ((cs.drop o).take n) d (range_of_blk (hM.at_ i he) o n _ (by simp)) hu (by simpa using hd) (by rw [hlen]; exact hi), h _ rfl⟩
theorem StoreAt.any {ty : TypeId} {o : Nat} {v : Value} {k : World → Prop} (hM : Mem S w0 l w) (i : Nat) (he : l[i]? = some ⟨g, t, cs, true⟩) (vs : List Value) (hv : v.cells.toList = vs) (hn : o + vs.length ≤ cs.length)
    (hi : (P.info? ty).map (·.size) = some vs.length) (h1 : vs.all (·.oneCell') = true)
    (h : ∀ w' new, new = setAll cs o vs → Mem S w0 (l.set i ⟨g, t, new, true⟩) w' → k w') : StoreAt P ty ⟨g, o, none⟩ v w k := by
  have hb := hM.at_ i he
  refine ⟨_, run_storeVar_any w g o ty v vs hv (there_of_blk hb o _ (by simpa using hn)) hi h1, h _ _ rfl (hM.put i he ?_ (only_setCells _ _ _ _ (Only.refl _ _)))⟩
  have hk := blk_setCells vs o w cs.toArray hb (by simpa using hn)
  rw [setAll_eq o cs vs hn]
  simpa using hk
theorem StoreAt.row {ty : TypeId} {o : Nat} {vs : List Value} {k : World → Prop} (hM : Mem S w0 l w) (i : Nat) (he : l[i]? = some ⟨g, t, cs, true⟩) (hn : o + vs.length ≤ cs.length)
    (hi : (P.info? ty).map (·.size) = some vs.length) (h1 : vs.all (·.oneCell') = true)
    (h : ∀ w' new, new = setAll cs o vs → Mem S w0 (l.set i ⟨g, t, new, true⟩) w' → k w') : StoreAt P ty ⟨g, o, none⟩ (.agg vs.toArray) w k :=
  StoreAt.any hM i he vs rfl hn hi h1 h
theorem StoreAt.one {ty : TypeId} {o : Nat} {v : Value} {k : World → Prop} (hM : Mem S w0 l w) (i : Nat) (he : l[i]? = some ⟨g, t, cs, true⟩) (hn : o + 1 ≤ cs.length) (hv : v.cells.toList = [v])
    (hi : (P.info? ty).map (·.size) = some 1) (h1 : v.oneCell' = true)
    (h : ∀ w' new, new = cs.set o v → Mem S w0 (l.set i ⟨g, t, new, true⟩) w' → k w') : StoreAt P ty ⟨g, o, none⟩ v w k :=
  StoreAt.any hM i he [v] hv hn hi (by simp [h1]) (fun w' new hnew hm => h w' new (hnew.trans (by rw [setAll_eq _ _ _ hn]; exact (set_one cs o v hn).symm)) hm)
/-- a block of the list, by its number -/
def In (l : List Ent) (g i : Nat) (e : Ent) : Prop := l[i]? = some e ∧ e.g = g
theorem In.head {l : List Ent} {g : Nat} {t : TypeId} {cs : List Value} {b : Bool} : In (⟨g, t, cs, b⟩ :: l) g 0 ⟨g, t, cs, b⟩ := ⟨rfl, rfl⟩
theorem In.tail {l : List Ent} {x : Ent} {g i : Nat} {e : Ent} (h : In l g i e) : In (x :: l) g (i + 1) e := ⟨by simpa using h.1, h.2⟩
theorem LoadAt.one2 {ty : TypeId} {o : Nat} {k : Value → Prop} {i : Nat} (hM : Mem S w0 l w) (he : In l g i ⟨g, t, cs, b⟩) (hd : (P.underlying ty).map (·.isRow) = some false) (hn : o < cs.length)
    (h : ∀ v, cs[o]? = some v → k v) : LoadAt P ty ⟨g, o, none⟩ w k := LoadAt.one hM i he.1 hd hn h
theorem LoadAt.row2 {ty : TypeId} {o n i : Nat} {k : Value → Prop} (hM : Mem S w0 l w) (he : In l g i ⟨g, t, cs, b⟩) (hd : (P.underlying ty).map (·.isRow) = some true) (hi : (P.info? ty).map (·.size) = some n) (hn : o + n ≤ cs.length)
    (h : ∀ r, r = (cs.drop o).take n → k (.agg r.toArray)) : LoadAt P ty ⟨g, o, none⟩ w k := LoadAt.row hM i he.1 hd hi hn h
theorem StoreAt.row2 {ty : TypeId} {o i : Nat} {vs : List Value} {k : World → Prop} (hM : Mem S w0 l w) (he : In l g i ⟨g, t, cs, true⟩) (hn : o + vs.length ≤ cs.length)
    (hi : (P.info? ty).map (·.size) = some vs.length) (h1 : vs.all (·.oneCell') = true)
    (h : ∀ w' new, new = setAll cs o vs → Mem S w0 (l.set i ⟨g, t, new, true⟩) w' → k w') : StoreAt P ty ⟨g, o, none⟩ (.agg vs.toArray) w k := StoreAt.row hM i he.1 hn hi h1 h
theorem StoreAt.one2 {ty : TypeId} {o i : Nat} {v : Value} {k : World → Prop} (hM : Mem S w0 l w) (he : In l g i ⟨g, t, cs, true⟩) (hn : o + 1 ≤ cs.length) (hv : v.cells.toList = [v])
    (hi : (P.info? ty).map (·.size) = some 1) (h1 : v.oneCell' = true)
    (h : ∀ w' new, new = cs.set o v → Mem S w0 (l.set i ⟨g, t, new, true⟩) w' → k w') : StoreAt P ty ⟨g, o, none⟩ v w k := StoreAt.one hM i he.1 hn hv hi h1 h
theorem cell_at (hM : Mem S w0 l w) (i : Nat) (he : l[i]? = some ⟨g, t, cs, b⟩) (o : Nat) {v : Value} (hv : cs[o]? = some v) : w.cell? ⟨g, o, none⟩ = some v := by
  rw [(hM.at_ i he).cell]
  simpa using hv
theorem froz_at (hM : Mem S w0 l w) (i : Nat) (he : l[i]? = some ⟨g, t, cs, b⟩) (o : Nat) : w.frozen? ⟨g, o, none⟩ = false := (hM.at_ i he).frozen o
/-- what a function gives back whose first result lies in a variable, the second in a slot -/
theorem results_blk2 {fn : Func} {p u : Tmp} {ty : TypeId} {ca : Array Value} (h : fn.results = #[.cell p ty, .tmp u]) (tmps : Array Value) (hb : Blk w g t ca) (d : TypeDesc) (v : Value)
    (hp : tmps.getD p undef = .pointer (some ⟨g, 0, none⟩)) (hv : tmps.getD u undef = v) (hu : P.underlying ty = some d) (hd : (match d with | .struct _ | .array _ _ => true | _ => false) = true) (hi : (P.info? ty).map (·.size) = some ca.size) :
    (results fn tmps).run P w = .ok (.tuple #[.agg ca, v]) w := by
  rw [results_cell_tmp h, hp, hv]
  simp [asAddr, run_loadVar_row w g t ty ca (0, 0) d hb hu hd hi]
end laws
/-- an operation at the head of a plain region's list -/
theorem wpList_m {P : Program} {ops : Array Oper} {rest : List Oper} {op : Oper} {a : Act} {w : World} {Q : Exit → Act → World → Prop} (hgd : op.guard = none)
    (h : ∀ K : Act → World → Prop, (∀ a w, wpList P ops Q rest a w → K a w) → op.wp P a w K Q) : wpList P ops Q (op :: rest) a w := wpList_plain hgd h
/-- the same, by what the operation is -/
theorem wpl_load {P : Program} {ops : Array Oper} {rest : List Oper} {d : Option Tmp} {ty : TypeId} {x : Operand} {t : TypeId} {p : String} {af : Array Edge} {a : Act} {w : World} {Q : Exit → Act → World → Prop}
    (h : ∀ K : Act → World → Prop, (∀ a w, wpList P ops Q rest a w → K a w) → Oper.wp P ⟨d, .load ty x, t, p, af, none⟩ a w K Q) : wpList P ops Q (⟨d, .load ty x, t, p, af, none⟩ :: rest) a w := wpList_plain rfl h
theorem wpl_store {P : Program} {ops : Array Oper} {rest : List Oper} {d : Option Tmp} {ty : TypeId} {x y : Operand} {t : TypeId} {p : String} {af : Array Edge} {a : Act} {w : World} {Q : Exit → Act → World → Prop}
    (h : ∀ K : Act → World → Prop, (∀ a w, wpList P ops Q rest a w → K a w) → Oper.wp P ⟨d, .store ty x y, t, p, af, none⟩ a w K Q) : wpList P ops Q (⟨d, .store ty x y, t, p, af, none⟩ :: rest) a w := wpList_plain rfl h
theorem wpl_alloc {P : Program} {ops : Array Oper} {rest : List Oper} {d : Option Tmp} {ty : TypeId} {t : TypeId} {p : String} {af : Array Edge} {a : Act} {w : World} {Q : Exit → Act → World → Prop}
    (h : ∀ K : Act → World → Prop, (∀ a w, wpList P ops Q rest a w → K a w) → Oper.wp P ⟨d, .alloc ty, t, p, af, none⟩ a w K Q) : wpList P ops Q (⟨d, .alloc ty, t, p, af, none⟩ :: rest) a w := wpList_plain rfl h
theorem wpl_box {P : Program} {ops : Array Oper} {rest : List Oper} {d : Option Tmp} {ty : TypeId} {x : Operand} {t : TypeId} {p : String} {af : Array Edge} {a : Act} {w : World} {Q : Exit → Act → World → Prop}
    (h : ∀ K : Act → World → Prop, (∀ a w, wpList P ops Q rest a w → K a w) → Oper.wp P ⟨d, .box ty x, t, p, af, none⟩ a w K Q) : wpList P ops Q (⟨d, .box ty x, t, p, af, none⟩ :: rest) a w := wpList_plain rfl h
/-- an operation in a region that draws its order -/
theorem step_m {P : Program} {ops : Array Oper} {op : Oper} {a : Act} {w : World} {K : Act → World → Prop} {Q : Exit → Act → World → Prop} {E : Prop} (hw : Region.wanted op (yielded ops a.tmps) = true)
    (h : op.wp P a w K Q) : if Region.wanted op (yielded ops a.tmps) = true then Oper.wp P op a w K Q else E := by
  rw [if_pos hw]; exact h
end Go.Proofs.Ytencgokpbfkeiaa
