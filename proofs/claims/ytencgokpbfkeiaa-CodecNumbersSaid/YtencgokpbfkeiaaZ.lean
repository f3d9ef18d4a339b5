/- Structs by value, out of a block that is known whole, and into it. No program in sight. -/
import Derived.Test.YtencgokpbfkeiaaO
import Derived.Deep.MidRow
set_option linter.unusedVariables false
namespace Go.Proofs.Ytencgokpbfkeiaa
open Go.ChangeShapes Go.WideShapes Go.ChangeAt Go.RowKit
/-- a list with some of its elements replaced, from the place o on -/
def splice (l : List Value) (o : Nat) (c : List Value) : List Value := l.take o ++ (c ++ l.drop (o + c.length))
section
variable {P : Program} {w : World} {g : Nat} {t : TypeId} {cs : Array Value}
theorem range_of_blk (hb : Blk w g t cs) (o n : Nat) (l : List Value) (hc : (cs.toList.drop o).take n = l) : w.rangeAt g o l := by
  intro j v hv
  rw [hb.cell, ← Array.getElem?_toList]
  rw [← hc] at hv
  have hj : j < n := by
    rcases Nat.lt_or_ge j n with h | h
    · exact h
    · rw [List.getElem?_eq_none (by rw [List.length_take]; omega)] at hv; cases hv
  rw [List.getElem?_take_of_lt hj, List.getElem?_drop] at hv
  exact hv
theorem there_of_blk (hb : Blk w g t cs) (o n : Nat) (h : o + n ≤ cs.size) : w.there g o n := by
  intro j hj
  refine ⟨?_, hb.frozen _⟩
  rw [hb.cell, Array.getElem?_eq_getElem (by omega)]
  rfl
theorem splice_set (l : List Value) (o : Nat) (v : Value) (c : List Value) (h : o < l.length) : splice (l.set o v) (o + 1) c = splice l o (v :: c) := by
  unfold splice
  rw [List.take_set, List.drop_set_of_lt (by omega)]
  have e1 : o + (v :: c).length = o + 1 + c.length := by simp; omega
  rw [e1, List.take_add_one, List.getElem?_eq_getElem h]
  have e2 : (l.take o ++ (some l[o]).toList).set o v = l.take o ++ [v] := by
    rw [List.set_append_right _ _ (by rw [List.length_take]; omega)]
    have : o - (l.take o).length = 0 := by rw [List.length_take]; omega
    rw [this]; rfl
  rw [e2]
  simp
theorem blk_setCells : ∀ (vs : List Value) (o : Nat) (w : World) (cs : Array Value), Blk w g t cs → o + vs.length ≤ cs.size → Blk (w.setCells g o vs) g t (splice cs.toList o vs).toArray
  | [], o, w, cs, hb, _ => by
    have e : splice cs.toList o [] = cs.toList := by simp [splice]
    rw [e, Array.toArray_toList]
    exact hb
  | v :: vs, o, w, cs, hb, h => by
    simp only [List.length_cons] at h
    have h1 := blk_setCells vs (o + 1) (w.setCell ⟨g, o, none⟩ v) (cs.setIfInBounds o v) (hb.set_ o v) (by simp; omega)
    rw [Array.toList_setIfInBounds, splice_set _ _ _ _ (by rw [Array.length_toList]; omega)] at h1
    exact h1
theorem only_setCells : ∀ (vs : List Value) (o : Nat) (w0 w : World), Only (fun i => i = g) w0 w → Only (fun i => i = g) w0 (w.setCells g o vs)
  | [], o, w0, w, h => h
  | v :: vs, o, w0, w, h => only_setCells vs (o + 1) w0 _ (h.setCell (p := ⟨g, o, none⟩) (.inr rfl) v)
theorem wpList_load_blk {ops : Array Oper} {rest : List Oper} {op : Oper} {a : Act} {Q : Exit → Act → World → Prop} (hgd : op.guard = none) (ty : TypeId) (x : Operand) (ho : op.op = .load ty x)
    (o : Nat) (hx : a.eval x = .pointer (some ⟨g, o, none⟩)) (hb : Blk w g t cs) (n : Nat) (l : List Value) (hc : (cs.toList.drop o).take n = l) (d : TypeDesc)
    (hu : P.underlying ty = some d) (hd : d.isRow = true) (hi : (P.info? ty).map (·.size) = some l.length)
    (h : wpList P ops Q rest (a.put op.dst (.agg l.toArray)) w) : wpList P ops Q (op :: rest) a w :=
  wpList_load_mid hgd ty x ho g o hx l d (range_of_blk hb o n l hc) hu hd hi h
theorem wp_store_blk {op : Oper} {a : Act} {K : Act → World → Prop} {Q : Exit → Act → World → Prop} (ty : TypeId) (x y : Operand) (ho : op.op = .store ty x y)
    (o : Nat) (l : List Value) (hx : a.eval x = .pointer (some ⟨g, o, none⟩)) (hy : a.eval y = .agg l.toArray) (hb : Blk w g t cs) (hsz : o + l.length ≤ cs.size) (new : Array Value) (hn : (splice cs.toList o l).toArray = new)
    (hi : (P.info? ty).map (·.size) = some l.length) (h1 : l.all (·.oneCell') = true)
    (h : ∀ w', Blk w' g t new → Only (fun i => i = g) w w' → K (a.put op.dst undef) w') : op.wp P a w K Q := by
  refine wp_store_mid ty x y ho g o l.toArray hx hy (there_of_blk hb o _ (by simpa using hsz)) (by simpa using hi) (by simpa using h1) ?_
  refine h _ ?_ (only_setCells _ _ _ _ (Only.refl _ _))
  have := blk_setCells l o w cs hb hsz
  rw [hn] at this
  simpa using this
theorem wpList_store_blk {ops : Array Oper} {rest : List Oper} {op : Oper} {a : Act} {Q : Exit → Act → World → Prop} (hgd : op.guard = none) (ty : TypeId) (x y : Operand) (ho : op.op = .store ty x y)
    (o : Nat) (l : List Value) (hx : a.eval x = .pointer (some ⟨g, o, none⟩)) (hy : a.eval y = .agg l.toArray) (hb : Blk w g t cs) (hsz : o + l.length ≤ cs.size) (new : Array Value) (hn : (splice cs.toList o l).toArray = new)
    (hi : (P.info? ty).map (·.size) = some l.length) (h1 : l.all (·.oneCell') = true)
    (h : ∀ w', Blk w' g t new → Only (fun i => i = g) w w' → wpList P ops Q rest (a.put op.dst undef) w') : wpList P ops Q (op :: rest) a w :=
  wpList_plain hgd fun _ hK => wp_store_blk ty x y ho o l hx hy hb hsz new hn hi h1 fun w' h2 h3 => hK _ _ (h w' h2 h3)
theorem step_store_blk {ops : Array Oper} {op : Oper} {a : Act} {K : Act → World → Prop} {Q : Exit → Act → World → Prop} {E : Prop} (hgd : op.guard = none) (ty : TypeId) (x y : Operand) (ho : op.op = .store ty x y)
    (o : Nat) (l : List Value) (hx : a.eval x = .pointer (some ⟨g, o, none⟩)) (hy : a.eval y = .agg l.toArray) (hb : Blk w g t cs) (hsz : o + l.length ≤ cs.size) (new : Array Value) (hn : (splice cs.toList o l).toArray = new)
    (hi : (P.info? ty).map (·.size) = some l.length) (h1 : l.all (·.oneCell') = true)
    (h : ∀ w', Blk w' g t new → Only (fun i => i = g) w w' → K (a.put op.dst undef) w') : if Region.wanted op (yielded ops a.tmps) = true then Oper.wp P op a w K Q else E := by
  have hw : Region.wanted op (yielded ops a.tmps) = true := by simp [Region.wanted, hgd]
  rw [if_pos hw]
  exact wp_store_blk ty x y ho o l hx hy hb hsz new hn hi h1 h
theorem results_blk {fn : Func} {p : Tmp} {ty : TypeId} (h : fn.results = #[.cell p ty]) (tmps : Array Value) (hb : Blk w g t cs) (d : TypeDesc)
    (hp : tmps.getD p undef = .pointer (some ⟨g, 0, none⟩)) (hu : P.underlying ty = some d) (hd : (match d with | .struct _ | .array _ _ => true | _ => false) = true) (hi : (P.info? ty).map (·.size) = some cs.size) :
    (results fn tmps).run P w = .ok (.agg cs) w := results_cell_row h tmps w g t cs (0, 0) d hp hb hu hd hi
end
end Go.Proofs.Ytencgokpbfkeiaa
