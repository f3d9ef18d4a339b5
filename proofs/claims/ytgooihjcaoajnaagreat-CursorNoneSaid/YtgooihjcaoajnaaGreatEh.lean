/- Each operation does to the world what the evaluator says: cuts of slices, maps, append, copy, calls. -/
import Derived.Test.YtgooihjcaoajnaaGreatEg
import Derived.Deep.Upon
import Derived.WideKeyRuns
set_option linter.unusedVariables false
set_option linter.unusedSimpArgs false
namespace Go.Proofs.YtgooihjcaoajnaaGreat.Ev
open Go Go.RowKit

/-- no function of the program with a body has the one name that the model treats by itself -/
def NmOk (P : Program) : Prop := ∀ (f : FuncId) (fn : Func), P.funcs[f]? = some fn → fn.body.isSome = true → (fn.name == "runtime.NumGoroutine") = false

section
variable {P : Program} {se : List TypeId} {E : En} {R : Rd} {n : Nat} {w : World}
section ops
variable {ev : Operand → Option AV} {ρ : Operand → Value}
theorem cutX_ok {g q len cap z l h : Nat} {r : AR} {res : Result Next} (hR : Rep P E R n w) (hg : g < n) (hc : cutX g q len cap z l h = some r)
    (hres : ∀ (hlh : l ≤ h) (hcap : h ≤ cap), res = .ok (.value (.slice (if cap = l then some ⟨E.ρ g, q, none⟩ else (some (⟨E.ρ g, q, none⟩ : Addr)).map (·.add (l * z))) (h - l) (cap - l))) w) : ROk P E R n w r res := by
  unfold cutX at hc
  split at hc
  · rename_i h1
    split at hc
    · rename_i h2
      have h1 := Nat.le_of_ble_eq_true h1
      have h2 := Nat.le_of_ble_eq_true h2
      simp only [Option.some.injEq] at hc; subst hc
      refine .pure hR ?_ hg
      rw [hres h1 h2]
      simp only [den]
      by_cases e : cap = l
      · subst e
        have : Nat.beq cap cap = true := Nat.beq_refl cap
        simp [this]
      · have : Nat.beq cap l = false := by
          cases hb : Nat.beq cap l with
          | true => exact absurd (Nat.eq_of_beq_eq_true hb) e
          | false => rfl
        simp [this, e, Addr.add_mid]
    · cases hc
  · cases hc
theorem slice_ok {t : TypeId} {x : Operand} {lo hi mx : Option Operand} {r : AR} {o : Oper} (ho : o.op = .slice t x lo hi mx) (hR : Rep P E R n w) (hE : EvOk E n ev ρ) (h : aSlice P ev R t x lo hi mx = some r) : ROk P E R n w r ((execOp ρ o).run P w) := by
  unfold aSlice at h
  split at h
  · cases h
  · split at h
    · rename_i g q len cap op hx
      split at h
      · rename_i e z hez
        obtain ⟨hu, hz⟩ := elemZ_ok hez
        split at h
        · rename_i l hl
          split at h
          · rename_i hh hhi
            split at h
            · unfold cutO at h
              split at h
              · cases h
              rename_i hlo
              have hokq : okO true len q = true := by
                cases len
                · exact hlo
                · rfl
              split at h
              · rename_i tt cs hg
                split at h
                · rename_i e1
                  have e1 := Nat.eq_of_beq_eq_true e1
                  subst e1
                  split at h
                  · rename_i e2
                    have e2 := Nat.eq_of_beq_eq_true e2
                    split at h
                    · rename_i e3
                      have e3 := Nat.le_of_ble_eq_true e3
                      split at h
                      · rename_i e4
                        have e4 := Nat.le_of_ble_eq_true e4
                        obtain ⟨rest, hob, -, h4⟩ := obj_cells hR hg
                        obtain ⟨z', hz', hz0, hlen⟩ := h4 rfl
                        rw [hz] at hz'
                        simp only [Option.some.injEq] at hz'
                        subst hz'
                        have hcap : hh ≤ E.κ g - cap := by
                          have h5 : cap * z + hh * z ≤ E.κ g * z := by omega
                          rw [← Nat.add_mul] at h5
                          have := Nat.le_of_mul_le_mul_right h5 hz0
                          omega
                        have hrun : (execOp ρ o).run P w = .ok (.value (.slice (if E.κ g - cap = l then some ⟨E.ρ g, q, none⟩ else (some (⟨E.ρ g, q, none⟩ : Addr)).map (·.add (l * z))) (hh - l) (E.κ g - cap - l))) w := by
                          simp only [execOp, ho, (hE _ _ hx).1, den_sl hokq]
                          refine run_v_ok ?_
                          simp only [Instr.sliceAt, Sem.run_bind, run_underlying hu, Result.andThen_ok, Instr.slice, Option.map_none, bounds_ok hE true hl hhi e4 hcap, run_size hz, Sem.run_pure]
                        split at h
                        · rename_i e5
                          have e5 := Nat.eq_of_beq_eq_true e5
                          subst e5
                          simp only [Option.some.injEq] at h; subst h
                          refine .pure hR ?_ (hE _ _ hx).2
                          have hokh : okO true hh q = true := by
                            cases hh
                            · exact hlo
                            · rfl
                          rw [hrun, den_sl hokh]
                          simp [Addr.add_mid]
                        · rename_i e5
                          split at h
                          · rename_i e6
                            have e6 : l < hh := Nat.le_of_ble_eq_true e6
                            simp only [Option.some.injEq] at h; subst h
                            refine .pure hR ?_ (hE _ _ hx).2
                            have hokd : okO true (hh - l) (q + l * z) = true := by
                              obtain ⟨d, hd⟩ : ∃ d, hh - l = d + 1 := ⟨hh - l - 1, by omega⟩
                              rw [hd]; rfl
                            rw [hrun, if_neg (by omega), den_sl hokd]
                            simp only [Option.map_some, Addr.add_mid]
                            congr 3
                            omega
                          · rename_i e6
                            have e6 : l = hh := by
                              have : ¬ l < hh := fun hlt => by
                                have h9 : Nat.blt l hh = true := Nat.ble_eq_true_of_le hlt
                                rw [h9] at e6; cases e6
                              omega
                            simp only [Option.some.injEq] at h; subst h
                            have hbd : g < n := (hE _ _ hx).2
                            refine .pure hR ?_ (show AV.bd n (.sl g (q + (q + l * z) * 18446744073709551616) 0 (cap + l) true) from hbd)
                            rw [hrun]
                            have e7 : hh - l = 0 := by omega
                            have e8 : E.κ g - cap - l = E.κ g - (cap + l) := by omega
                            have hl1 : l ≠ 0 := fun e => by rw [e] at e5; cases e5
                            have e9 : offD (E.κ g) (q + (q + l * z) * 18446744073709551616) 0 (cap + l) true = if E.κ g - cap = l then q else q + l * z :=
                              offP_pair (blt_lt hlo) hl1 (fun h => (Nat.add_eq_zero_iff.1 h).1)
                            simp only [den, e9, e7, e8]
                            split
                            · rfl
                            · simp [Addr.add_mid]
                      · cases h
                    · cases h
                  · cases h
                · cases h
              · cases h
            · refine cutX_ok hR (hE _ _ hx).2 h fun h1 h2 => ?_
              simp only [execOp, ho, (hE _ _ hx).1, den, offD_false]
              refine run_v_ok ?_
              simp only [Instr.sliceAt, Sem.run_bind, run_underlying hu, Result.andThen_ok, Instr.slice, Option.map_none, bounds_ok hE true hl hhi h1 h2, run_size hz, Sem.run_pure]
          · cases h
        · cases h
      · cases h
    · rename_i l hx
      split at h
      · rename_i hu
        split at h
        · rename_i a ha
          split at h
          · rename_i hh hhi
            split at h
            · rename_i h1
              split at h
              · rename_i h2
                have h1 := Nat.le_of_ble_eq_true h1
                have h2 := Nat.le_of_ble_eq_true h2
                simp only [Option.some.injEq] at h; subst h
                refine .pure hR ?_ trivial
                simp only [execOp, ho, (hE _ _ hx).1, den]
                refine run_v_ok ?_
                have hb := bounds_ok (P := P) (w := w) hE false (cap := l.length) ha hhi h1 h2
                have e1 : (ByteArray.mk ⟨l⟩).size = l.length := rfl
                have e2 : (ByteArray.mk ⟨l⟩).extract a hh = ByteArray.mk ⟨(l.drop a).take (hh - a)⟩ := by
                  apply ByteArray.ext
                  rw [ByteArray.data_extract]
                  apply Array.ext'
                  simp [List.extract_eq_take_drop]
                simp [Instr.sliceAt, run_underlying hu, Instr.slice, e1, hb, e2]
              · cases h
            · cases h
          · cases h
        · cases h
      · cases h
    · rename_i hx
      split at h
      · rename_i ez hez
        obtain ⟨hu, hz⟩ := elemZ_ok (e := ez.1) (z := ez.2) hez
        split at h
        · rename_i hl
          split at h
          · rename_i hhi
            simp only [Option.some.injEq] at h; subst h
            refine .pure hR ?_ trivial
            simp only [execOp, ho, (hE _ _ hx).1, den]
            refine run_v_ok ?_
            simp only [Instr.sliceAt, Sem.run_bind, run_underlying hu, Result.andThen_ok, Instr.slice, Option.map_none, bounds_ok hE true hl hhi (Nat.le_refl 0) (Nat.le_refl 0), run_size hz, Sem.run_pure]
            simp
          · cases h
        · cases h
      · cases h
    · rename_i g q hx
      split at h
      · rename_i m e hu
        split at h
        · rename_i z hz
          split at h
          · rename_i l hl
            split at h
            · rename_i hh hhi
              refine cutX_ok hR (hE _ _ hx).2 h fun h1 h2 => ?_
              simp only [execOp, ho, (hE _ _ hx).1, den]
              refine run_v_ok ?_
              simp only [Instr.sliceAt, Sem.run_bind, run_underlying hu, Result.andThen_ok, Instr.sureAddr, Sem.run_pure, Option.map_none, bounds_ok hE false hl hhi h1 h2, run_size hz]
              by_cases e : m = l <;> simp [e]
            · cases h
          · cases h
        · cases h
      · cases h
    · cases h
/-! maps -/
theorem findE_ok (E : En) {kk : IntKind} {a : Int} {j : IntKind} : ∀ {es : List (AV × AV × Nat)} {i : Nat} {r : Option (Nat × AV)}, findE kk a es i = some r →
    Instr.findNow (.int j) (.int kk a) (es.map (denE E)) i = some (r.map fun x => (x.1, den E x.2))
  | [], i, r, h => by simp only [findE, Option.some.injEq] at h; subst h; rfl
  | (k', v, b) :: es, i, r, h => by
    simp only [findE] at h
    split at h
    · rename_i q m
      split at h
      · rename_i hk
        have hk := of_decide_eq_true hk
        subst hk
        split at h
        · rename_i hm
          simp only [Option.some.injEq] at h; subst h
          simp [Instr.findNow, denE, den, Instr.sameNow, hm]
        · rename_i hm
          have ih := findE_ok E (j := j) h
          simp only [List.map_cons, Instr.findNow, denE, den, Instr.sameNow, if_true, hm]
          exact ih
      · cases h
    · cases h
theorem findE_at {kk : IntKind} {a : Int} : ∀ {es : List (AV × AV × Nat)} {i k : Nat} {v : AV}, findE kk a es i = some (some (k, v)) → i ≤ k ∧ ∃ b, es[k - i]? = some (.i kk a, v, b)
  | [], i, k, v, h => by simp [findE] at h
  | (k', v', b) :: es, i, k, v, h => by
    simp only [findE] at h
    split at h
    · rename_i q m
      split at h
      · rename_i hk
        have hk := of_decide_eq_true hk
        subst hk
        split at h
        · rename_i hm
          have hm := beq_iff_eq.1 hm
          subst hm
          simp only [Option.some.injEq, Prod.mk.injEq] at h
          obtain ⟨rfl, rfl⟩ := h
          exact ⟨Nat.le_refl _, b, by simp⟩
        · have ih := findE_at h
          refine ⟨by omega, ?_⟩
          obtain ⟨b', hb⟩ := ih.2
          refine ⟨b', ?_⟩
          have : k - i = (k - (i + 1)) + 1 := by omega
          rw [this]
          simpa using hb
      · cases h
    · cases h
theorem isInt_ok {t : TypeId} (h : isInt P t = true) : ∃ k, P.underlying t = some (.int k) := by
  unfold isInt at h
  split at h
  · rename_i k hk; exact ⟨k, hk⟩
  · cases h
theorem check_int {kt : TypeId} {j : IntKind} (hk : P.underlying kt = some (.int j)) (b : Bool) (k : Nat) (kk : IntKind) (a : Int) (w : World) : (Instr.checkKey b (k + 1) kt (.int kk a)).run P w = .ok () w := by
  simp [Instr.checkKey, run_underlying hk]
theorem find_int {kt : TypeId} {j : IntKind} (hk : P.underlying kt = some (.int j)) {kk : IntKind} {a : Int} {es : List (AV × AV × Nat)} {r : Option (Nat × AV)} (h : findE kk a es 0 = some r) (E : En) (w : World) :
    (Instr.findKey kt (.int kk a) (es.map (denE E))).run P w = .ok (r.map fun x => (x.1, den E x.2)) w := by
  simp [Instr.findKey, run_underlying hk, findE_ok E (j := j) h]
theorem check_list {b : Bool} {k : Nat} {cs : Array Value} {w : World} : ∀ (L : List Field), (∀ f ∈ L, isInt P f.type = true ∧ f.name ≠ "_" ∧ f.offset < cs.size) →
    (forIn L PUnit.unit fun f __s => (if f.name ≠ "_" then (do
        let v ← part f.type cs f.offset
        Instr.checkKey b (k + 1) f.type v
        pure (ForInStep.yield PUnit.unit))
      else pure (ForInStep.yield PUnit.unit) : Sem (ForInStep PUnit))).run P w = .ok PUnit.unit w
  | [], _ => by simp
  | f :: L, h => by
    obtain ⟨h1, h2, h3⟩ := h f (by simp)
    obtain ⟨q, hq⟩ := isInt_ok h1
    have hp : (part f.type cs f.offset).run P w = .ok cs[f.offset] w := by
      simp [part, isAgg, run_underlying hq, h3]
    have hc : (Instr.checkKey b (k + 1) f.type cs[f.offset]).run P w = .ok () w := by
      simp [Instr.checkKey, run_underlying hq]
    have ih := check_list (b := b) (k := k) (cs := cs) (w := w) L (fun g hg => h g (by simp [hg]))
    simp only [List.forIn_cons, Sem.run_bind, h2, ne_eq, not_false_eq_true, if_true, Result.andThen_ok, hp, hc, Sem.run_pure]
    exact ih
theorem keyS_ok {kt : TypeId} {key : AV} (h : keyS P kt key = true) : ∃ l fs, key = .ag l ∧ P.underlying kt = some (.struct fs) ∧ ∀ f ∈ fs.toList, isInt P f.type = true ∧ f.name ≠ "_" ∧ f.offset < l.length := by
  unfold keyS at h
  split at h
  · rename_i l
    split at h
    · rename_i fs hu
      refine ⟨l, fs, rfl, hu, fun f hf => ?_⟩
      have := allB_iff h f hf
      simp only [Bool.and_eq_true, Bool.not_eq_true', beq_eq_false_iff_ne] at this
      exact ⟨this.1, this.2.1, Nat.le_of_ble_eq_true this.2.2⟩
    · cases h
  · cases h
theorem check_st {kt : TypeId} {key : AV} (h : keyS P kt key = true) (E : En) (b : Bool) (k : Nat) (w : World) : (Instr.checkKey b (k + 2) kt (den E key)).run P w = .ok () w := by
  obtain ⟨l, fs, rfl, hu, hf⟩ := keyS_ok h
  have := check_list (b := b) (k := k) (cs := (⟨denL E l⟩ : Array Value)) (w := w) fs.toList (fun f hf' => ⟨(hf f hf').1, (hf f hf').2.1, by simpa using (hf f hf').2.2⟩)
  rw [Instr.checkKey]
  simp only [den, Sem.run_bind, run_underlying hu, Result.andThen_ok]
  rw [← Array.forIn_toList, this]
  simp
theorem findK_ok (hse : SeOk P se) (hR : Rep P E R n w) {kt : TypeId} {key : AV} : ∀ {es : List (AV × AV × Nat)} {i : Nat} {r : Option (Nat × AV)}, findK P se R kt key es i = some r →
    (Instr.findAsking kt (den E key) (es.map (denE E)) i).run P w = .ok (r.map fun x => (x.1, den E x.2)) w
  | [], i, r, h => by simp only [findK, Option.some.injEq] at h; subst h; simp [Instr.findAsking]
  | (k', v, b) :: es, i, r, h => by
    simp only [findK] at h
    have eqq : ∀ {r : Bool}, eqN P se R 60 kt key k' = some r → (Op.equal kt (den E key) (den E k')).run P w = .ok r w := fun hq => by
      have := eqN_run (E := E) (w := w) hse hR 60 hq 9940
      simpa [Op.equal, Op.maxDepth] using this
    split at h
    · rename_i hq
      simp only [Option.some.injEq] at h; subst h
      simp [Instr.findAsking, denE, eqq hq]
    · rename_i hq
      have ih := findK_ok hse hR h
      simp only [List.map_cons, Instr.findAsking, denE, Sem.run_bind, eqq hq, Result.andThen_ok]
      exact ih
    · cases h
theorem findK_at {kt : TypeId} {key : AV} : ∀ {es : List (AV × AV × Nat)} {i k : Nat} {v : AV}, findK P se R kt key es i = some (some (k, v)) → ∃ e ∈ es, e.2.1 = v
  | [], i, k, v, h => by simp [findK] at h
  | (k', v', b) :: es, i, k, v, h => by
    simp only [findK] at h
    split at h
    · simp only [Option.some.injEq, Prod.mk.injEq] at h
      exact ⟨(k', v', b), by simp, h.2⟩
    · obtain ⟨e, he, hv⟩ := findK_at h
      exact ⟨e, by simp [he], hv⟩
    · cases h
theorem find_st (hse : SeOk P se) (hR : Rep P E R n w) {kt : TypeId} {key : AV} (hk : keyS P kt key = true) {es : List (AV × AV × Nat)} {r : Option (Nat × AV)} (h : findK P se R kt key es 0 = some r) :
    (Instr.findKey kt (den E key) (es.map (denE E))).run P w = .ok (r.map fun x => (x.1, den E x.2)) w := by
  obtain ⟨l, fs, -, hu, -⟩ := keyS_ok hk
  rw [run_findKey_eq w (P := P) (k := kt) (by rw [hu])]
  exact findK_ok hse hR h
theorem getObj_map {g : Nat} {es : List (AV × AV × Nat)} {cl : Nat} (hR : Rep P E R n w) (hg : R g = some (.map es cl)) : (getObj (E.ρ g)).run P w = .ok (.map (es.map (denE E)).toArray cl) w := by
  have := hR.obj g _ hg
  have h2 : w.heap[E.ρ g]? = some (.map (es.map (denE E)).toArray cl) := this
  simp [getObj, Sem.run, h2]
theorem map_modify {α β : Type} (g : α → β) (f : α → α) (f' : β → β) (h : ∀ x, g (f x) = f' (g x)) : ∀ (l : List α) (i : Nat), (l.modify i f).map g = (l.map g).modify i f'
  | [], i => by cases i <;> rfl
  | a :: l, 0 => by simp [List.modify, List.modifyTailIdx, List.modifyTailIdx.go, List.modifyHead, h]
  | a :: l, i + 1 => by
    have := map_modify g f f' h l i
    simp only [List.modify_succ_cons, List.map_cons, this]
theorem mem_modify {α : Type} {f : α → α} : ∀ {l : List α} {i : Nat} {x : α}, x ∈ l.modify i f → x ∈ l ∨ ∃ y ∈ l, x = f y
  | [], i, x, h => by cases i <;> simp [List.modify, List.modifyTailIdx, List.modifyTailIdx.go, List.modifyHead] at h
  | a :: l, 0, x, h => by
    simp [List.modify, List.modifyTailIdx, List.modifyTailIdx.go, List.modifyHead] at h
    rcases h with h | h
    · exact .inr ⟨a, by simp, h⟩
    · exact .inl (by simp [h])
  | a :: l, i + 1, x, h => by
    rw [List.modify_succ_cons] at h
    rcases List.mem_cons.1 h with h | h
    · exact .inl (by simp [h])
    · rcases mem_modify h with h | ⟨y, hy, e⟩
      · exact .inl (by simp [h])
      · exact .inr ⟨y, by simp [hy], e⟩
theorem lookup_ok {t : TypeId} {x k : Operand} {c : Bool} {r : AR} {o : Oper} (hse : SeOk P se) (ho : o.op = .lookup t x k c) (hR : Rep P E R n w) (hE : EvOk E n ev ρ) (h : aLookup P se ev R t x k c = some r) : ROk P E R n w r ((execOp ρ o).run P w) := by
  unfold aLookup at h
  split at h
  · rename_i kt e hu
    split at h
    · rename_i hi
      obtain ⟨j, hj⟩ := isInt_ok hi
      split at h
      · rename_i kk a hk
        have hk1 : ρ k = .int kk a := (hE _ _ hk).1
        have hck : ∀ b, (Instr.checkKey b 10000 kt (.int kk a)).run P w = .ok () w := fun b => check_int hj b 9999 kk a w
        split at h
        · rename_i es hes
          have hbd : ∀ e ∈ es, AV.bd n e.1 ∧ AV.bd n e.2.1 := by
            unfold mapA at hes
            split at hes
            · simp only [Option.some.injEq] at hes; subst hes; simp
            · split at hes
              · rename_i g hx _ es' cl hg
                simp only [Option.some.injEq] at hes; subst hes
                exact (hR.bd g _ hg).2
              · cases hes
            · cases hes
          have hgo : ∀ (r : Option (Nat × AV)) (z : Value), findE kk a es 0 = some r → (r = none → (zeroValue e).run P w = .ok z w) →
              (execOp ρ o).run P w = .ok (.value (if c then .tuple #[(match r with | some x => den E x.2 | none => z), .bool r.isSome] else (match r with | some x => den E x.2 | none => z))) w := by
            intro r z hr hz
            have hfi := find_int hj hr E w
            simp only [execOp, ho, hk1]
            refine run_v_ok ?_
            unfold mapA at hes
            split at hes
            · rename_i hx
              have hx1 : ρ x = .map none := (hE _ _ hx).1
              simp only [Option.some.injEq] at hes; subst hes
              simp only [List.map_nil] at hfi
              cases r with
              | none =>
                simp only [Option.map_none] at hfi
                cases c <;> simp [Instr.lookup, run_underlying hu, hx1, hck, hfi, hz rfl]
              | some q =>
                simp only [Option.map_some] at hfi
                cases c <;> simp [Instr.lookup, run_underlying hu, hx1, hck, hfi]
            · rename_i g hx
              split at hes
              · rename_i es' cl hg
                have hx1 : ρ x = .map (some (E.ρ g)) := (hE _ _ hx).1
                simp only [Option.some.injEq] at hes; subst hes
                have hge := getObj_map hR hg
                cases r with
                | none =>
                  simp only [Option.map_none] at hfi
                  cases c <;> simp [Instr.lookup, run_underlying hu, hx1, hge, hck, hfi, hz rfl]
                | some q =>
                  simp only [Option.map_some] at hfi
                  cases c <;> simp [Instr.lookup, run_underlying hu, hx1, hge, hck, hfi]
              · cases hes
            · cases hes
          split at h
          · rename_i i v hf
            simp only [Option.some.injEq] at h; subst h
            obtain ⟨_, b, hb⟩ := findE_at hf
            have hvb := (hbd _ (List.mem_of_getElem? hb)).2
            have := hgo _ undef hf (fun h => by cases h)
            refine .pure hR ?_ ?_
            · rw [this]; cases c <;> simp [den, denL]
            · cases c
              · exact hvb
              · exact ⟨hvb, trivial, trivial⟩
          · rename_i hf
            split at h
            · rename_i z hz
              simp only [Option.some.injEq] at h; subst h
              have := hgo _ (den E z) hf (fun _ => run_zero hz E w)
              refine .pure hR ?_ ?_
              · rw [this]; cases c <;> simp [den, denL]
              · cases c
                · exact zero_bd hz n
                · exact ⟨zero_bd hz n, trivial, trivial⟩
            · cases h
          · cases h
        · cases h
      · cases h
    · split at h
      · rename_i kv hk
        split at h
        case h_2 => cases h
        rename_i hks
        have hk1 : ρ k = den E kv := (hE _ _ hk).1
        have hck : ∀ b, (Instr.checkKey b 10000 kt (den E kv)).run P w = .ok () w := fun b => check_st hks E b 9998 w
        split at h
        · rename_i es hes
          have hbd : ∀ e ∈ es, AV.bd n e.1 ∧ AV.bd n e.2.1 := by
            unfold mapA at hes
            split at hes
            · simp only [Option.some.injEq] at hes; subst hes; simp
            · split at hes
              · rename_i g hx _ es' cl hg
                simp only [Option.some.injEq] at hes; subst hes
                exact (hR.bd g _ hg).2
              · cases hes
            · cases hes
          have hgo : ∀ (r : Option (Nat × AV)) (z : Value), findK P se R kt kv es 0 = some r → (r = none → (zeroValue e).run P w = .ok z w) →
              (execOp ρ o).run P w = .ok (.value (if c then .tuple #[(match r with | some x => den E x.2 | none => z), .bool r.isSome] else (match r with | some x => den E x.2 | none => z))) w := by
            intro r z hr hz
            have hfi := find_st hse hR hks hr
            simp only [execOp, ho, hk1]
            refine run_v_ok ?_
            unfold mapA at hes
            split at hes
            · rename_i hx
              have hx1 : ρ x = .map none := (hE _ _ hx).1
              simp only [Option.some.injEq] at hes; subst hes
              simp only [List.map_nil] at hfi
              cases r with
              | none =>
                simp only [Option.map_none] at hfi
                cases c <;> simp [Instr.lookup, run_underlying hu, hx1, hck, hfi, hz rfl]
              | some q =>
                simp only [Option.map_some] at hfi
                cases c <;> simp [Instr.lookup, run_underlying hu, hx1, hck, hfi]
            · rename_i g hx
              split at hes
              · rename_i es' cl hg
                have hx1 : ρ x = .map (some (E.ρ g)) := (hE _ _ hx).1
                simp only [Option.some.injEq] at hes; subst hes
                have hge := getObj_map hR hg
                cases r with
                | none =>
                  simp only [Option.map_none] at hfi
                  cases c <;> simp [Instr.lookup, run_underlying hu, hx1, hge, hck, hfi, hz rfl]
                | some q =>
                  simp only [Option.map_some] at hfi
                  cases c <;> simp [Instr.lookup, run_underlying hu, hx1, hge, hck, hfi]
              · cases hes
            · cases hes
          split at h
          · rename_i i v hf
            simp only [Option.some.injEq] at h; subst h
            obtain ⟨en, hen, rfl⟩ := findK_at hf
            have hvb := (hbd _ hen).2
            have := hgo _ undef hf (fun h => by cases h)
            refine .pure hR ?_ ?_
            · rw [this]; cases c <;> simp [den, denL]
            · cases c
              · exact hvb
              · exact ⟨hvb, trivial, trivial⟩
          · rename_i hf
            split at h
            · rename_i z hz
              simp only [Option.some.injEq] at h; subst h
              have := hgo _ (den E z) hf (fun _ => run_zero hz E w)
              refine .pure hR ?_ ?_
              · rw [this]; cases c <;> simp [den, denL]
              · cases c
                · exact zero_bd hz n
                · exact ⟨zero_bd hz n, trivial, trivial⟩
            · cases h
          · cases h
        · cases h
      · cases h
  · cases h
theorem mapUpdate_ok {t : TypeId} {x k v : Operand} {r : AR} {o : Oper} (hse : SeOk P se) (ho : o.op = .mapUpdate t x k v) (hR : Rep P E R n w) (hE : EvOk E n ev ρ) (h : aMapUpdate P se ev R t x k v = some r) : ROk P E R n w r ((execOp ρ o).run P w) := by
  unfold aMapUpdate at h
  split at h
  · rename_i kt e hu
    split at h
    · rename_i hi
      obtain ⟨j, hj⟩ := isInt_ok hi
      split at h
      · rename_i kk a hk
        have hk1 : ρ k = .int kk a := (hE _ _ hk).1
        have hck : ∀ b, (Instr.checkKey b 10000 kt (.int kk a)).run P w = .ok () w := fun b => check_int hj b 9999 kk a w
        split at h
        · rename_i vv hv
          have hv1 : ρ v = den E vv := (hE _ _ hv).1
          split at h
          · rename_i g hx
            have hx1 : ρ x = .map (some (E.ρ g)) := (hE _ _ hx).1
            split at h
            · rename_i es cl hg
              have hob : w.heap[E.ρ g]? = some (.map (es.map (denE E)).toArray cl) := hR.obj g _ hg
              have hge := getObj_map hR hg
              have hbd := (hR.bd g _ hg).2
              have hset : ∀ (es' : List (AV × AV × Nat)) (cl' : Nat) (res : Result Next), res = .ok .skip { w with heap := w.heap.setIfInBounds (E.ρ g) (.map (es'.map (denE E)).toArray cl') } →
                  (∀ e ∈ es', AV.bd n e.1 ∧ AV.bd n e.2.1) → ROk P E R n w (.val undefA (.set g (.map es' cl'))) res := by
                intro es' cl' res hres hb'
                have hlt := (Array.getElem?_eq_some_iff.1 hob).1
                have hw : ∀ b, b ≠ E.ρ g → ({ w with heap := w.heap.setIfInBounds (E.ρ g) (.map (es'.map (denE E)).toArray cl') } : World).heap[b]? = w.heap[b]? := fun b hb => by
                  simp [Array.getElem?_setIfInBounds_ne (Ne.symm hb)]
                refine ⟨E, _, .inr ⟨hres, rfl⟩, trivial, stp_set (P := P) hg hw (by simp) rfl rfl rfl, rep_set hR hg hw ?_ hb', (fun h => by cases h), (fun _ _ h => by cases h)⟩
                show _ = _
                simp [hlt]
              have hso : ∀ o' : Obj, (setObj (E.ρ g) o').run P w = .ok () { w with heap := w.heap.setIfInBounds (E.ρ g) o' } := fun o' => by simp [setObj, Sem.run, hob]
              split at h
              · rename_i i q hf
                have hfi := find_int hj hf E w
                simp only [Option.some.injEq] at h; subst h
                obtain ⟨_, b, hb⟩ := findE_at hf
                rw [Nat.sub_zero] at hb
                refine hset _ _ _ ?_ ?_
                · simp only [execOp, ho, hk1, hv1, hx1]
                  refine run_u_ok ?_
                  have hsame : Instr.sameBits 10000 (.int kk a) (.int kk a) = true := by simp [Instr.sameBits]
                  have hmod : ((es.map (denE E)).modify i fun e => { e with key := .int kk a, val := den E vv }) = (es.modify i fun e => (.i kk a, vv, e.2.2)).map (denE E) :=
                    (map_modify (denE E) _ _ (fun x => by simp [denE, den]) es i).symm
                  have hge2 : ((List.map (denE E) es).toArray[i]?) = some (denE E (.i kk a, q, b)) := by simp [hb]
                  simp only [Instr.mapUpdate, Sem.run_bind, run_underlying hu, hge, hck, hfi, Result.andThen_ok, Option.map_some, hge2, Option.getD_some, Instr.keyThatStays, denE, den, hsame, if_true, Sem.run_pure, hso]
                  rw [List.modify_toArray]
                  rw [← hmod]
                · intro e he
                  rcases mem_modify he with he | ⟨y, hy, rfl⟩
                  · exact hbd e he
                  · exact ⟨trivial, (hE _ _ hv).2⟩
              · rename_i hf
                have hfi := find_int hj hf E w
                simp only [Option.some.injEq] at h; subst h
                refine hset _ _ _ ?_ ?_
                · simp only [execOp, ho, hk1, hv1, hx1]
                  refine run_u_ok ?_
                  simp [Instr.mapUpdate, run_underlying hu, hge, hck, hfi, hso, denE, den]
                · intro e he
                  rcases List.mem_append.1 he with he | he
                  · exact hbd e he
                  · simp only [List.mem_singleton] at he
                    subst he
                    exact ⟨trivial, (hE _ _ hv).2⟩
              · cases h
            · cases h
          · cases h
        · cases h
      · cases h
    · split at h
      · rename_i kv hk
        split at h
        case h_2 => cases h
        rename_i hks
        have hk1 : ρ k = den E kv := (hE _ _ hk).1
        have hck : ∀ b, (Instr.checkKey b 10000 kt (den E kv)).run P w = .ok () w := fun b => check_st hks E b 9998 w
        split at h
        · rename_i vv hv
          have hv1 : ρ v = den E vv := (hE _ _ hv).1
          split at h
          · rename_i g hx
            have hx1 : ρ x = .map (some (E.ρ g)) := (hE _ _ hx).1
            split at h
            · rename_i es cl hg
              have hob : w.heap[E.ρ g]? = some (.map (es.map (denE E)).toArray cl) := hR.obj g _ hg
              have hge := getObj_map hR hg
              have hbd := (hR.bd g _ hg).2
              have hset : ∀ (es' : List (AV × AV × Nat)) (cl' : Nat) (res : Result Next), res = .ok .skip { w with heap := w.heap.setIfInBounds (E.ρ g) (.map (es'.map (denE E)).toArray cl') } →
                  (∀ e ∈ es', AV.bd n e.1 ∧ AV.bd n e.2.1) → ROk P E R n w (.val undefA (.set g (.map es' cl'))) res := by
                intro es' cl' res hres hb'
                have hlt := (Array.getElem?_eq_some_iff.1 hob).1
                have hw : ∀ b, b ≠ E.ρ g → ({ w with heap := w.heap.setIfInBounds (E.ρ g) (.map (es'.map (denE E)).toArray cl') } : World).heap[b]? = w.heap[b]? := fun b hb => by
                  simp [Array.getElem?_setIfInBounds_ne (Ne.symm hb)]
                refine ⟨E, _, .inr ⟨hres, rfl⟩, trivial, stp_set (P := P) hg hw (by simp) rfl rfl rfl, rep_set hR hg hw ?_ hb', (fun h => by cases h), (fun _ _ h => by cases h)⟩
                show _ = _
                simp [hlt]
              have hso : ∀ o' : Obj, (setObj (E.ρ g) o').run P w = .ok () { w with heap := w.heap.setIfInBounds (E.ρ g) o' } := fun o' => by simp [setObj, Sem.run, hob]
              split at h
              · rename_i hf
                have hfi := find_st hse hR hks hf
                simp only [Option.some.injEq] at h; subst h
                refine hset _ _ _ ?_ ?_
                · simp only [execOp, ho, hk1, hv1, hx1]
                  refine run_u_ok ?_
                  simp [Instr.mapUpdate, run_underlying hu, hge, hck, hfi, hso, denE, den]
                · intro e he
                  rcases List.mem_append.1 he with he | he
                  · exact hbd e he
                  · simp only [List.mem_singleton] at he
                    subst he
                    exact ⟨(hE _ _ hk).2, (hE _ _ hv).2⟩
              · cases h
            · cases h
          · cases h
        · cases h
      · cases h
  · cases h
end ops
end
end Go.Proofs.YtgooihjcaoajnaaGreat.Ev
