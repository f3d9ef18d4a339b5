/- Each operation does to the world what the evaluator says: structs, addresses, new blocks, stores. -/
import Derived.Test.YtgooihjcaoajnaaGreatEd
import Derived.Laws.Tables
import Derived.Great.BuildSlice
import Derived.Deep.AppendSrc
import Derived.Deep.DeepAppendWide
import Derived.Laws.Slices
import Derived.Laws.MakeOwn
set_option linter.unusedVariables false
set_option linter.unusedSimpArgs false
namespace Go.Proofs.YtgooihjcaoajnaaGreat.Ev
open Go Go.RowKit

section
variable {P : Program} {E : En} {R : Rd} {n : Nat} {w : World}

theorem den_cells (E : En) (v : AV) : (den E v).cells = (v.cells.map (den E)).toArray := by
  cases v <;> simp [den, Value.cells, AV.cells]
theorem cells_bd {v : AV} (h : v.bd n) : ∀ u ∈ v.cells, AV.bd n u := by
  cases v <;> simp only [AV.cells, List.mem_singleton] <;> try (rintro u rfl; exact h)
  exact bdL_iff.1 h
theorem one_ok {v : AV} (h : oneA v = true) (E : En) : (den E v).oneCell' = true := by
  cases v <;> first | rfl | (simp [oneA] at h)
theorem allB_iff {α : Type} {p : α → Bool} : ∀ {l : List α}, allB p l = true → ∀ x ∈ l, p x = true
  | [], _, x, hx => by cases hx
  | a :: l, h, x, hx => by
    simp only [allB] at h
    split at h
    · rename_i ha
      rcases List.mem_cons.1 hx with rfl | hx
      · exact ha
      · exact allB_iff h x hx
    · cases h
theorem over_len {α : Type} (l : List α) (o : Nat) (vs : List α) (h : o + vs.length ≤ l.length) : (overL l o vs).length = l.length := by
  simp only [overL, List.length_append, List.length_take, List.length_drop]; omega
theorem over_map {α β : Type} (f : α → β) (l : List α) (o : Nat) (vs : List α) (more : List β) (h : o + vs.length ≤ l.length) :
    (overL l o vs).map f ++ more = (l.map f ++ more).take o ++ vs.map f ++ (l.map f ++ more).drop (o + (vs.map f).length) := by
  simp only [overL, List.map_append, List.map_take, List.map_drop, List.length_map]
  rw [List.take_append_of_le_length (by simp; omega), List.drop_append_of_le_length (by simp; omega)]
  simp [List.append_assoc]
theorem over_bd {l : List AV} {o : Nat} {vs : List AV} (hl : ∀ v ∈ l, AV.bd n v) (hv : ∀ v ∈ vs, AV.bd n v) : ∀ v ∈ overL l o vs, AV.bd n v := by
  intro v h
  simp only [overL, List.mem_append] at h
  rcases h with h | h | h
  · exact hl v (List.mem_of_mem_take h)
  · exact hv v h
  · exact hl v (List.mem_of_mem_drop h)

/-- an operation that makes a block -/
theorem ROk.mk_new {t : TypeId} {cs : List AV} {op : Bool} {v : AV} {res : Result Next} {w' : World} {V : Value} (rest : List Value) (c : Nat) (hR : Rep P E R n w)
    (hres : res = .ok (.value V) w') (hheap : w'.heap = w.heap.push (.cells (cs.map (den E) ++ rest).toArray t)) (hos : w'.os = w.os) (htape : w'.tape = w.tape) (hout : w'.output = w.output)
    (hV : den (E.new n w.heap.size c) v = V) (hb : ∀ u ∈ cs, AV.bd n u) (hop : op = false → rest = []) (hop' : op = true → ∃ z, sizeT P t = some z ∧ 0 < z ∧ cs.length + rest.length = c * z)
    (hvb : v.bd (n + 1)) (hc0 : op = false → c = 0) (hal : op = false → w' = w.alloc (.cells (cs.map (den E)).toArray t)) : ROk P E R n w (.val v (.new (.cells t cs op))) res := by
  have hx := E.ext n w.heap.size c
  refine ⟨E.new n w.heap.size c, w', .inl (by rw [hV]; exact hres), hvb, stp_new hx (by simp) (fun g q h => (hR.bd g q h).1) hheap hos htape hout, ?_, (fun h => by cases h), fun t' cs' h => by
    injection h with h
    injection h with h1 h2 h3
    subst h1; subst h2; subst h3
    have e1 := hc0 rfl
    subst e1
    rw [hV, hres, hal rfl]
    exact ⟨rfl, hb⟩⟩
  refine rep_new hR hx (by simp) hheap ?_ (fun u hu => AV.bd_mono (by omega) (hb u hu))
  refine ⟨rest, ?_, hop, by simpa using hop'⟩
  rw [En.new_ρ, map_ext hx hb, hheap]
  simp
/-- an operation that writes into a block -/
theorem ROk.mk_set {t : TypeId} {cs cs' : List AV} {op : Bool} {v : AV} {res : Result Next} {w' : World} {g : Nat} {rest : List Value} (hR : Rep P E R n w) (hg : R g = some (.cells t cs op))
    (ho : w.heap[E.ρ g]? = some (.cells (cs.map (den E) ++ rest).toArray t (0, 0))) (hres : res = .ok (.value (den E v)) w' ∨ (res = .ok .skip w' ∧ v = undefA))
    (hw : w' = w.setRow (E.ρ g) (cs'.map (den E) ++ rest).toArray) (hlen : cs'.length = cs.length) (hb : ∀ u ∈ cs', AV.bd n u) (hvb : v.bd n) :
    ROk P E R n w (.val v (.set g (.cells t cs' op))) res := by
  subst hw
  refine ⟨E, _, hres, hvb, stp_set (P := P) hg (fun b hb => setRow_other _ _ _ _ hb) (by simp) rfl rfl rfl, ?_, (fun h => by cases h), (fun _ _ h => by cases h)⟩
  refine rep_set hR hg (fun b hb => setRow_other _ _ _ _ hb) ?_ hb
  obtain ⟨r2, h1, h2, h3⟩ := hR.obj g _ hg
  rw [ho] at h1
  have h4 : cs.map (den E) ++ rest = cs.map (den E) ++ r2 := by
    injection h1 with h1
    injection h1 with h1
    exact List.toArray_inj h1
  have h5 := List.append_cancel_left h4
  subst h5
  exact ⟨rest, setRow_heap _ _ _ _ _ _ ho, h2, by rw [hlen]; exact h3⟩
theorem obj_cells (hR : Rep P E R n w) {g : Nat} {t : TypeId} {cs : List AV} {op : Bool} (hg : R g = some (.cells t cs op)) :
    ∃ rest : List Value, w.heap[E.ρ g]? = some (.cells (cs.map (den E) ++ rest).toArray t (0, 0)) ∧
      (op = false → rest = []) ∧ (op = true → ∃ z, sizeT P t = some z ∧ 0 < z ∧ cs.length + rest.length = E.κ g * z) := hR.obj g _ hg
theorem store_cells {g o : Nat} {t : TypeId} {cs vs : List AV} {rest : List Value} (ho : w.heap[E.ρ g]? = some (.cells (cs.map (den E) ++ rest).toArray t (0, 0)))
    (hl : o + vs.length ≤ cs.length) (h1 : ∀ v ∈ vs, oneA v = true) :
    (storeCells ⟨E.ρ g, o, none⟩ (vs.map (den E))).run P w = .ok () (w.setRow (E.ρ g) ((overL cs o vs).map (den E) ++ rest).toArray) := by
  have := run_storeCells_at (P := P) (E.ρ g) o t (vs.map (den E)) 0 _ w ho (by simp; omega) (by
    intro v hv
    obtain ⟨u, hu, rfl⟩ := List.mem_map.1 hv
    exact one_ok (h1 u hu) E)
  simp only [Nat.add_zero] at this
  rw [this, over_map (den E) cs o vs rest hl]
section ops
variable {ev : Operand → Option AV} {ρ : Operand → Value}
theorem store_ok {t : TypeId} {x y : Operand} {r : AR} {o : Oper} (ho : o.op = .store t x y) (hR : Rep P E R n w) (hE : EvOk E n ev ρ) (h : aStore P ev R t x y = some r) : ROk P E R n w r ((execOp ρ o).run P w) := by
  unfold aStore at h
  split at h
  · rename_i g q hx
    split at h
    · rename_i v hy
      split at h
      · rename_i tt cs op hg
        split at h
        · rename_i m hm
          split at h
          · rename_i hl
            split at h
            · rename_i hlen
              split at h
              · rename_i h1
                simp only [Option.some.injEq] at h; subst h
                have hl := Nat.eq_of_beq_eq_true hl
                have hlen := Nat.le_of_ble_eq_true hlen
                obtain ⟨rest, hob, -⟩ := obj_cells hR hg
                have hst := store_cells (P := P) hob (o := q) (vs := v.cells) (by omega) (allB_iff h1)
                refine ROk.mk_set hR hg hob (.inr ⟨?_, rfl⟩) rfl (over_len _ _ _ (by omega)) (over_bd (hR.bd g _ hg).2 (cells_bd (hE _ _ hy).2)) trivial
                simp only [execOp, ho, (hE _ _ hx).1, (hE _ _ hy).1, den]
                refine run_u_ok ?_
                have hsz : ((den E v).cells.size ≠ m) = False := by rw [den_cells]; simp [hl]
                simp only [Instr.storeAt, Instr.sureAddr, storeVar, Sem.run_bind, Sem.run_pure, Result.andThen_ok, run_size hm, hsz, if_false]
                rw [den_cells]
                exact hst
              · cases h
            · cases h
          · cases h
        · cases h
      · cases h
    · cases h
  · cases h
theorem alloc_ok {t : TypeId} {r : AR} {o : Oper} (ho : o.op = .alloc t) (hR : Rep P E R n w) (h : aAlloc P n t = some r) : ROk P E R n w r ((execOp ρ o).run P w) := by
  unfold aAlloc at h
  split at h
  · rename_i z hz
    simp only [Option.some.injEq] at h; subst h
    refine ROk.mk_new (w' := w.alloc (.cells (z.cells.map (den E)).toArray t)) (V := .pointer (some ⟨w.heap.size, 0, none⟩)) [] 0 hR ?_ (by rw [List.append_nil]; rfl) rfl rfl rfl (by simp [den]) (cells_bd (zero_bd hz n)) (fun _ => rfl) (fun h => by cases h) (by simp [AV.bd]) (fun _ => rfl) (fun _ => rfl)
    simp only [execOp, ho]
    refine run_v_ok ?_
    simp only [Instr.alloc, Sem.run_bind, run_zero hz E, Result.andThen_ok, newVar, newRow, den_cells]
    simp
  · cases h
theorem box_ok {t : TypeId} {x : Operand} {r : AR} {o : Oper} (ho : o.op = .box t x) (hR : Rep P E R n w) (hE : EvOk E n ev ρ) (h : aBox ev n t x = some r) : ROk P E R n w r ((execOp ρ o).run P w) := by
  unfold aBox at h
  split at h
  · rename_i v hx
    simp only [Option.some.injEq] at h; subst h
    refine ROk.mk_new (w' := w.alloc (.cells (v.cells.map (den E)).toArray t)) (V := .pointer (some ⟨w.heap.size, 0, none⟩)) [] 0 hR ?_ (by rw [List.append_nil]; rfl) rfl rfl rfl (by simp [den]) (cells_bd (hE _ _ hx).2) (fun _ => rfl) (fun h => by cases h) (by simp [AV.bd]) (fun _ => rfl) (fun _ => rfl)
    simp only [execOp, ho, (hE _ _ hx).1]
    refine run_v_ok ?_
    simp only [Instr.box, Sem.run_bind, newVar, newRow, den_cells]
    simp
  · cases h
end ops
end
end Go.Proofs.YtgooihjcaoajnaaGreat.Ev
