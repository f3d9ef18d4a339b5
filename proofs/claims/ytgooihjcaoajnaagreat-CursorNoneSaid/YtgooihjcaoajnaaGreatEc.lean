/- Each operation does to the world what the evaluator says: those that make no memory. -/
import Derived.Test.YtgooihjcaoajnaaGreatEb
set_option linter.unusedVariables false
set_option linter.unusedSimpArgs false
namespace Go.Proofs.YtgooihjcaoajnaaGreat.Ev
open Go Go.RowKit

def EvOk (E : En) (n : Nat) (ev : Operand → Option AV) (ρ : Operand → Value) : Prop := ∀ x v, ev x = some v → ρ x = den E v ∧ v.bd n

def denD (E : En) (d : ADef) : Deferred := { target := .fn (.func d.fn) ⟨d.cap.map (den E)⟩, args := ⟨d.args.map (den E)⟩ }
def ADef.bd (n : Nat) (d : ADef) : Prop := (∀ v ∈ d.args, AV.bd n v) ∧ ∀ v ∈ d.cap, AV.bd n v

/-- what came of an operation is what the evaluator says -/
def ROk (P : Program) (E : En) (R : Rd) (n : Nat) (w : World) (r : AR) (res : Result Next) : Prop := match r with
  | .val v e => ∃ E' w', (res = .ok (.value (den E' v)) w' ∨ (res = .ok .skip w' ∧ v = undefA)) ∧ v.bd (effN e n) ∧
      Stp E R n w E' (effR e R n) (effN e n) w' ∧ Rep P E' (effR e R n) (effN e n) w' ∧ (e = .none → res = .ok (.value (den E v)) w) ∧
      (∀ t cs, e = .new (.cells t cs false) → res = .ok (.value (den (E.new n w.heap.size 0) v)) (w.alloc (.cells (cs.map (den E)).toArray t)) ∧ ∀ u ∈ cs, AV.bd n u)
  | .enter f args => res = .ok (.enter f ⟨args.map (den E)⟩) w ∧ ∀ a ∈ args, AV.bd n a
  | .defer d => res = .ok (.defer (denD E d)) w ∧ d.bd n
  | .panic v => res = .halt (.panic (den E v)) w ∧ v.bd n
  | .recover => res = .ok .recover w

section
variable {P : Program} {E : En} {R : Rd} {n : Nat} {w : World}

theorem ROk.pure {v : AV} {res : Result Next} (hR : Rep P E R n w) (h : res = .ok (.value (den E v)) w) (hb : v.bd n) : ROk P E R n w (.val v .none) res :=
  ⟨E, w, .inl h, hb, Stp.refl _ _ _ _, hR, (fun _ => h), (fun _ _ h => by cases h)⟩

theorem run_v (s : Sem Value) (w : World) : (do pure (Next.value (← s)) : Sem Next).run P w = (s.run P w).andThen fun x w' => .ok (.value x) w' := by
  rw [Sem.run_bind]; rfl
theorem run_v_ok {s : Sem Value} {w w' : World} {v : Value} (h : s.run P w = .ok v w') : (do pure (Next.value (← s)) : Sem Next).run P w = .ok (.value v) w' := by
  rw [run_v, h]; rfl
theorem run_v_halt {s : Sem Value} {w w' : World} {v : Halt} (h : s.run P w = .halt v w') : (do pure (Next.value (← s)) : Sem Next).run P w = .halt v w' := by
  rw [run_v, h]; rfl
theorem run_u_ok {s : Sem Unit} {w w' : World} (h : s.run P w = .ok () w') : (do s; pure Next.skip : Sem Next).run P w = .ok .skip w' := by
  rw [Sem.run_bind, h]; rfl

theorem size_info {t : TypeId} {n : Nat} (h : sizeT P t = some n) : ∃ i, P.info? t = some i ∧ i.size = n := by
  unfold sizeT at h
  split at h
  · rename_i i hi; simp only [Option.some.injEq] at h; exact ⟨i, hi, h⟩
  · cases h
theorem run_size {t : TypeId} {n : Nat} (h : sizeT P t = some n) (w : World) : (sizeOf t).run P w = .ok n w := by
  obtain ⟨i, hi, rfl⟩ := size_info h
  simp [sizeOf, typeInfo, hi]
theorem zero_info {t : TypeId} {z : AV} (h : zeroT P t = some z) (E : En) (n : Nat) : ∃ i, P.info? t = some i ∧ i.zero = some (den E z) ∧ z.bd n := by
  unfold zeroT at h
  split at h
  · rename_i i hi
    split at h
    · rename_i v hv
      have := ofV_ok E n h
      exact ⟨i, hi, by rw [this.1]; exact hv, this.2⟩
    · cases h
  · cases h
theorem run_zero {t : TypeId} {z : AV} (h : zeroT P t = some z) (E : En) (w : World) : (zeroValue t).run P w = .ok (den E z) w := by
  obtain ⟨i, hi, hz, -⟩ := zero_info h E 0
  simp [zeroValue, typeInfo, hi, hz]
theorem zero_bd {t : TypeId} {z : AV} (h : zeroT P t = some z) (n : Nat) : z.bd n := by
  obtain ⟨_, _, _, h⟩ := zero_info h ⟨id, id, sgOf fun _ => 0, (sgOf_ok _).1, (sgOf_ok _).2⟩ n
  exact h
theorem run_isAgg {t : TypeId} {b : Bool} (h : isAggT P t = some b) (w : World) : (isAgg t).run P w = .ok b w := by
  unfold isAggT at h
  split at h
  · rename_i fs hu; simp only [Option.some.injEq] at h; subst h; simp [isAgg, run_underlying hu]
  · rename_i m e hu; simp only [Option.some.injEq] at h; subst h; simp [isAgg, run_underlying hu]
  · rename_i d h1 h2 hu
    simp only [Option.some.injEq] at h
    subst h
    unfold isAgg
    rw [Sem.run_bind, run_underlying hu, Result.andThen_ok]
    cases d <;> first | rfl | exact absurd rfl (h1 _) | exact absurd rfl (h2 _ _)
  · cases h
theorem mem_take_drop {α : Type} {l : List α} {o n : Nat} {x : α} (h : x ∈ (l.drop o).take n) : x ∈ l := List.mem_of_mem_drop (List.mem_of_mem_take h)
theorem map_cut (f : AV → Value) (l : List AV) (o n : Nat) : ((l.drop o).take n).map f = ((l.map f).drop o).take n := by simp [List.map_take, List.map_drop]
theorem part_ok {t : TypeId} {cs : List AV} {o : Nat} {v : AV} (h : partA P t cs o = some v) (E : En) (w : World) (more : List Value) :
    (part t (cs.map (den E) ++ more).toArray o).run P w = .ok (den E v) w := by
  unfold partA at h
  split at h
  · rename_i ha
    split at h
    · rename_i m hm
      split at h
      · rename_i hl
        simp only [Option.some.injEq] at h
        subst h
        have hl' := Nat.le_of_ble_eq_true hl
        simp only [part, Sem.run_bind, run_isAgg ha, Result.andThen_ok, if_true, run_size hm, Sem.run_pure, den, denL_eq]
        congr 2
        rw [List.extract_toArray, List.extract_eq_take_drop, map_cut]
        congr 1
        rw [List.drop_append_of_le_length (by simp; omega), List.take_append_of_le_length (by simp; omega)]
        congr 1
        omega
      · cases h
    · cases h
  · rename_i ha
    simp only [part, Sem.run_bind, run_isAgg ha, Result.andThen_ok, Bool.false_eq_true, if_false]
    have hlt := (List.getElem?_eq_some_iff.1 h).1
    have : (cs.map (den E) ++ more).toArray[o]? = some (den E v) := by
      rw [List.getElem?_toArray, List.getElem?_append_left (by simpa using hlt), List.getElem?_map, h]; rfl
    rw [this]
    rfl
  · cases h
theorem part_ok' {t : TypeId} {cs : List AV} {o : Nat} {v : AV} (h : partA P t cs o = some v) (E : En) (w : World) :
    (part t ⟨cs.map (den E)⟩ o).run P w = .ok (den E v) w := by simpa using part_ok h E w []
theorem part_bd {t : TypeId} {cs : List AV} {o : Nat} {v : AV} (h : partA P t cs o = some v) (hb : ∀ v ∈ cs, AV.bd n v) : v.bd n := by
  unfold partA at h
  split at h
  · split at h
    · split at h
      · simp only [Option.some.injEq] at h
        subst h
        exact bdL_iff.2 fun v hv => hb v (mem_take_drop hv)
      · cases h
    · cases h
  · exact hb v (List.mem_of_getElem? h)
  · cases h
theorem cell_of {g : Nat} {o j : Nat} {t : TypeId} {l : List Value} {fz : Nat × Nat} (h : w.heap[g]? = some (.cells l.toArray t fz)) {v : Value} (hv : l[o + j]? = some v) : w.cell? ((⟨g, o, none⟩ : Addr).add j) = some v := by
  rw [Addr.add_mid]
  simp [World.cell?, h, hv]
theorem load_ok {t : TypeId} {g o : Nat} {v : AV} (hR : Rep P E R n w) (h : loadA P R t g o = some v) : (loadVar t ⟨E.ρ g, o, none⟩).run P w = .ok (den E v) w ∧ v.bd n := by
  unfold loadA at h
  split at h
  · rename_i tt cs op hg
    obtain ⟨rest, ho, -⟩ := hR.obj g _ hg
    have hbd := (hR.bd g _ hg).2
    refine ⟨?_, part_bd h hbd⟩
    unfold partA at h
    split at h
    · rename_i ha
      split at h
      · rename_i m hm
        split at h
        · rename_i hl
          simp only [Option.some.injEq] at h
          subst h
          have hl' := Nat.le_of_ble_eq_true hl
          have hlen : (((cs.drop o).take m).map (den E)).length = m := by simp; omega
          have := run_loadCells_list (P := P) w ⟨E.ρ g, o, none⟩ (((cs.drop o).take m).map (den E)) (fun j v hj => by
            refine cell_of ho ?_
            have hj' : j < m := by have := (List.getElem?_eq_some_iff.1 hj).1; omega
            rw [map_cut, List.getElem?_take_of_lt hj', List.getElem?_drop] at hj
            rw [List.getElem?_append_left (by simp; omega)]
            exact hj)
          rw [hlen] at this
          simp only [loadVar, Sem.run_bind, run_isAgg ha, Result.andThen_ok, if_true, run_size hm, this, Sem.run_pure, den, denL_eq]
        · cases h
      · cases h
    · rename_i ha
      have hlt := (List.getElem?_eq_some_iff.1 h).1
      have hc : w.cell? ⟨E.ρ g, o, none⟩ = some (den E v) := by
        have := cell_of (j := 0) ho (o := o) (v := den E v) (by rw [List.getElem?_append_left (by simpa using hlt), Nat.add_zero, List.getElem?_map, h]; rfl)
        rw [Addr.add_mid, Nat.add_zero] at this
        exact this
      simp only [loadVar, Sem.run_bind, run_isAgg ha, Result.andThen_ok, Bool.false_eq_true, if_false, run_load, hc]
    · cases h
  · cases h

/-! ### One by one -/
section ops
variable {ev : Operand → Option AV} {ρ : Operand → Value}
theorem v1_ok {s : Sem Next} {x : Option AV} {r : AR} (hR : Rep P E R n w) (h : v1 x = some r) (hs : ∀ v, x = some v → s.run P w = .ok (.value (den E v)) w ∧ v.bd n) : ROk P E R n w r (s.run P w) := by
  unfold v1 at h
  split at h
  · rename_i v
    simp only [Option.some.injEq] at h
    subst h
    have := hs v rfl
    exact .pure hR this.1 this.2
  · cases h
theorem pick_ok {c a b : Operand} {r : AR} {o : Oper} (ho : o.op = .pick c a b) (hR : Rep P E R n w) (hE : EvOk E n ev ρ) (h : aPick ev c a b = some r) : ROk P E R n w r ((execOp ρ o).run P w) := by
  unfold aPick at h
  split at h
  · rename_i hc
    refine v1_ok hR h fun v hv => ?_
    simp [execOp, ho, (hE _ _ hc).1, den, asBool, (hE _ _ hv).1, (hE _ _ hv).2]
  · rename_i hc
    refine v1_ok hR h fun v hv => ?_
    simp [execOp, ho, (hE _ _ hc).1, den, asBool, (hE _ _ hv).1, (hE _ _ hv).2]
  · cases h
theorem move_ok {x : Operand} {r : AR} {o : Oper} (ho : o.op = .move x ∨ o.op = .assign x) (hR : Rep P E R n w) (hE : EvOk E n ev ρ) (h : v1 (ev x) = some r) : ROk P E R n w r ((execOp ρ o).run P w) := by
  refine v1_ok hR h fun v hv => ?_
  rcases ho with ho | ho <;> simp [execOp, ho, (hE _ _ hv).1, (hE _ _ hv).2]
theorem loado_ok {t : TypeId} {x : Operand} {r : AR} {o : Oper} (ho : o.op = .load t x) (hR : Rep P E R n w) (hE : EvOk E n ev ρ) (h : aLoad P ev R t x = some r) : ROk P E R n w r ((execOp ρ o).run P w) := by
  unfold aLoad at h
  split at h
  · rename_i g q hx
    refine v1_ok hR h fun v hv => ?_
    have := load_ok hR hv
    refine ⟨?_, this.2⟩
    simp only [execOp, ho, (hE _ _ hx).1, den]
    refine run_v_ok ?_
    simp only [Instr.loadAt, Instr.sureAddr, Sem.run_bind, Sem.run_pure, Result.andThen_ok, this.1]
  · cases h
theorem nilpanic (w : World) : (runtimePanic (α := Next) .nilDeref).run P w = .halt (.panic (den E (nilDeref P))) w := by
  simp [runtimePanic, goPanic, nilDeref, den, strVal]
theorem nil_ok {x : Operand} {r : AR} {o : Oper} (ho : o.op = .nilCheck x) (hR : Rep P E R n w) (hE : EvOk E n ev ρ) (h : aNil P ev x = some r) : ROk P E R n w r ((execOp ρ o).run P w) := by
  unfold aNil at h
  split at h
  · rename_i hx
    simp only [Option.some.injEq] at h; subst h
    simp only [execOp, ho, (hE _ _ hx).1, den]
    exact ⟨nilpanic w, trivial⟩
  · rename_i hx
    simp only [Option.some.injEq] at h; subst h
    simp only [execOp, ho, (hE _ _ hx).1, den]
    exact ⟨nilpanic w, trivial⟩
  · rename_i hx
    simp only [Option.some.injEq] at h; subst h
    simp only [execOp, ho, (hE _ _ hx).1, den]
    exact ⟨nilpanic w, trivial⟩
  · rename_i v n1 n2 n3 hx
    simp only [Option.some.injEq] at h; subst h
    refine .pure hR ?_ (hE _ _ hx).2
    simp only [execOp, ho, (hE _ _ hx).1]
    cases v <;> simp_all [den]
  · cases h
theorem wr_eq (k : IntKind) (m : Int) : wr k m = k.wrap m := by
  unfold wr
  split
  · split
    · split
      · rename_i q x h
        have hq : q < 9223372036854775808 := Nat.le_of_ble_eq_true h
        simp only [IntKind.wrap, IntKind.bits, IntKind.signed]
        simp
        omega
      · rfl
    · split
      · rename_i q x h
        have hq : q < 9223372036854775808 := Nat.le_of_ble_eq_true h
        simp only [IntKind.wrap, IntKind.bits, IntKind.signed]
        simp
        omega
      · rfl
  · rfl
end ops
end
end Go.Proofs.YtgooihjcaoajnaaGreat.Ev
