/- Each operation does to the world what the evaluator says: copy, calls; all of them together. -/
import Derived.Test.YtgooihjcaoajnaaGreatEi
set_option linter.unusedVariables false
set_option linter.unusedSimpArgs false
namespace Go.Proofs.YtgooihjcaoajnaaGreat.Ev
open Go Go.RowKit

section
variable {P : Program} {E : En} {R : Rd} {n : Nat} {w : World}
section ops
variable {ev : Operand → Option AV} {ρ : Operand → Value}
theorem callFunc_enter {f : FuncId} {fn : Func} {c : Code} (hf : P.funcs[f]? = some fn) (hname : (fn.name == "runtime.NumGoroutine") = false) (hb : fn.body = some c) (args : Array Value) (w : World) :
    (callFunc f args).run P w = .ok (.enter f args) w := by
  have h1 : fn.name ≠ "runtime.NumGoroutine" := by simpa using hname
  simp [callFunc, hf, h1, hb]
theorem copy_ok {t : TypeId} {a1 : Array TypeId} {ty : TypeId} {s x : AV} {r : AR} (hR : Rep P E R n w) (ht : a1[0]? = some t) (hs : s.bd n) (h : copyA P R t s x = some r) :
    ROk P E R n w r ((do pure (Next.value (← Builtin.copy_ a1 ty #[den E s, den E x])) : Sem Next).run P w) := by
  unfold copyA at h
  split at h
  · rename_i e z hez
    obtain ⟨hu, hz⟩ := elemZ_ok hez
    split at h
    · rename_i m d hm hd
      split at h
      · cases h
      · rename_i new hnew
        split at h
        · cases h
        · rename_i h1
          have h1 := allB_iff h1
          obtain ⟨hrow, hnlen, hnb⟩ := row_ok hR hnew (fun m' hm' => by
            rw [hm] at hm'
            simp only [Option.some.injEq] at hm'
            have := Nat.min_le_left m d
            have e : Nat.min m d = min m d := rfl
            omega)
          have hrow := hrow false
          simp only [Bool.false_eq_true, if_false] at hrow
          have hlo := fun w => lenA_ok (P := P) (E := E) hm w
          split at h
          · simp only [lenA, Option.some.injEq] at hd
            subst hd
            have e0 : m.min 0 = 0 := Nat.min_zero m
            rw [e0] at hrow
            simp only [Option.some.injEq] at h; subst h
            refine .pure hR (run_v_ok ?_) trivial
            simp [Builtin.copy_, ht, run_underlying hu, hlo, run_size hz, den, hrow, goInt]
          · rename_i g o len cap op
            simp only [lenA, Option.some.injEq] at hd
            subst hd
            split at h
            · cases h
            rename_i hok
            rw [den_sl hok]
            split at h
            · rename_i tt cs oo hg
              split at h
              · rename_i hl
                have hl := Nat.le_of_ble_eq_true hl
                simp only [Option.some.injEq] at h; subst h
                obtain ⟨rest, hob, -⟩ := obj_cells hR hg
                have e1 : o + new.length ≤ cs.length := by rw [hnlen]; exact hl
                have hst := store_cells (P := P) hob e1 h1
                refine ROk.mk_set hR hg hob (.inl (run_v_ok ?_)) rfl (over_len _ _ _ e1) (over_bd (hR.bd g _ hg).2 hnb) trivial
                simp [Builtin.copy_, ht, run_underlying hu, hlo, run_size hz, den, hrow, goInt, hst]
              · cases h
            · cases h
          · cases h
    · cases h
  · cases h
theorem len_ok {at_ : Array TypeId} {ty : TypeId} {v : AV} {r : AR} (hR : Rep P E R n w) (h : aLen P R at_ v = some r) :
    ROk P E R n w r ((do pure (Next.value (← Builtin.len_ at_ ty #[den E v])) : Sem Next).run P w) := by
  unfold aLen at h
  split at h
  · cases h
  · rename_i t ht
    split at h
    · rename_i e hu
      simp only [Option.some.injEq] at h; subst h
      exact .pure hR (run_v_ok (by simp [Builtin.len_, ht, run_underlying hu, den, goInt])) trivial
    · rename_i e g o m c op hu
      simp only [Option.some.injEq] at h; subst h
      exact .pure hR (run_v_ok (by simp [Builtin.len_, ht, run_underlying hu, den, goInt])) trivial
    · rename_i l hu
      simp only [Option.some.injEq] at h; subst h
      exact .pure hR (run_v_ok (by simp [Builtin.len_, ht, run_underlying hu, den, goInt]; rfl)) trivial
    · rename_i k e hu
      simp only [Option.some.injEq] at h; subst h
      exact .pure hR (run_v_ok (by simp [Builtin.len_, ht, run_underlying hu, den, goInt])) trivial
    · rename_i k e g hu
      split at h
      · rename_i es cl hg
        simp only [Option.some.injEq] at h; subst h
        exact .pure hR (run_v_ok (by simp [Builtin.len_, ht, run_underlying hu, den, goInt, getObj_map hR hg])) trivial
      · cases h
    · cases h
theorem builtin_ok {b : Builtin} {at_ : Array TypeId} {ty : TypeId} {cs : Array Bool} {args : List AV} {r : AR} (hR : Rep P E R n w) (hb : ∀ v ∈ args, AV.bd n v) (h : aBuiltin P R n b at_ args = some r) :
    ROk P E R n w r ((builtin b at_ ty cs ⟨args.map (den E)⟩).run P w) := by
  unfold aBuiltin at h
  split at h
  · exact len_ok hR h
  · split at h
    · rename_i t u hat
      split at h
      · rename_i e' hu'
        have : at_ = #[t, u] := by apply Array.ext'; exact hat
        subst this
        exact append_ok hR (hb _ (by simp)) (hb _ (by simp)) hu' h
      · cases h
    · cases h
  · split at h
    · rename_i t ht
      exact copy_ok hR ht (hb _ (by simp)) h
    · cases h
  · simp only [Option.some.injEq] at h; subst h
    exact .pure hR (run_v_ok (by simp [Builtin.max_, Builtin.max2, den])) trivial
  · simp only [Option.some.injEq] at h; subst h
    exact .pure hR (run_v_ok (by simp [Builtin.min_, Builtin.min2, den])) trivial
  · simp only [Option.some.injEq] at h; subst h
    exact ⟨run_v_halt (by simp [Instr.panic, goPanic, den]), hb _ (by simp)⟩
  · simp only [Option.some.injEq] at h; subst h
    exact rfl
  · cases h
theorem run_program' (w : World) : (program).run P w = .ok P w := rfl
theorem meth_ok {t : TypeId} {name : String} {f : FuncId} (h : methA P t name = some f) {k : Nat} {v : Value} {w : World} : (Go.method (k + Made.depth) t v name).run P w = .ok (f, v) w := by
  unfold methA at h
  split at h
  · rename_i i hi
    split at h
    · rename_i m hm
      split at h
      · rename_i hp
        split at h
        · rename_i g hg
          split at h
          · rename_i e hu
            simp only [Option.some.injEq] at h; subst h
            have hd : k + Made.depth = (k + (Made.depth - 1)) + 1 := by simp [Made.depth]
            rw [hd]
            simp [Go.method, typeInfo, hi, hm, hp, hg, Go.follow, Go.receiverAt, run_underlying hu, Go.Place.get]
          · cases h
        · cases h
      · cases h
    · cases h
  · cases h
theorem call_ok {c : Call} {r : AR} {o : Oper} (hnm : NmOk P) (ho : o.op = .call c) (hR : Rep P E R n w) (hE : EvOk E n ev ρ) (h : aCall P ev R n c = some r) : ROk P E R n w r ((execOp ρ o).run P w) := by
  unfold aCall at h
  split at h
  · rename_i args ha
    have h1 := evs_ok hE ha
    split at h
    · rename_i b hc
      have := builtin_ok (ty := o.type) (cs := c.args.map fun | .const _ => true | _ => false) hR h1.2 h
      have e : (execOp ρ o).run P w = (builtin b c.argTypes o.type (c.args.map fun | .const _ => true | _ => false) ⟨args.map (den E)⟩).run P w := by
        simp only [execOp, ho, resolve, hc, Sem.run_bind, Sem.run_pure, Result.andThen_ok, invoke]
        rw [map_arr ρ c.args h1.1]
        rfl
      rw [e]
      exact this
    · rename_i x hc
      split at h
      · rename_i f first cap hx
        have h2 := (hE _ _ hx).2
        split at h
        · rename_i hbd
          simp only [Option.some.injEq] at h; subst h
          unfold bodied at hbd
          split at hbd
          · rename_i fn hf
            split at hbd
            · rename_i cd hcd
              refine ⟨?_, ?_⟩
              · simp only [execOp, ho, resolve, hc, (hE _ _ hx).1, den, denL_eq, Deferred.ofValue, Sem.run_bind, Sem.run_pure, Result.andThen_ok, invoke]
                rw [map_arr ρ c.args h1.1, callFunc_enter hf (hnm f fn hf (by rw [hcd]; rfl)) hcd]
                simp
              · intro a ha
                rcases List.mem_append.1 ha with ha | ha
                · rcases List.mem_append.1 ha with ha | ha
                  · exact bdL_iff.1 h2.1 a ha
                  · exact h1.2 a ha
                · exact bdL_iff.1 h2.2 a ha
            · cases hbd
          · cases hbd
        · cases h
      · rename_i hx
        simp only [Option.some.injEq] at h; subst h
        refine ⟨?_, trivial⟩
        simp only [execOp, ho, resolve, hc, (hE _ _ hx).1, den, Deferred.ofValue, Sem.run_bind, Sem.run_pure, Result.andThen_ok, invoke]
        exact nilpanic w
      · cases h
    · rename_i x name hc
      split at h
      · rename_i t v hx
        have h2 := (hE _ _ hx).2
        split at h
        · rename_i f hm
          split at h
          · rename_i hbd
            simp only [Option.some.injEq] at h; subst h
            unfold bodied at hbd
            split at hbd
            · rename_i fn hf
              split at hbd
              · rename_i cd hcd
                refine ⟨?_, ?_⟩
                · simp only [execOp, ho, resolve, hc, (hE _ _ hx).1, den, Sem.run_bind, Sem.run_pure, Result.andThen_ok, invoke]
                  rw [map_arr ρ c.args h1.1]
                  have e1 : ((#[Value.iface t (den E v)] ++ (⟨args.map (den E)⟩ : Array Value))[0]?) = some (Value.iface t (den E v)) := by simp
                  have e2 : (#[Value.iface t (den E v)] ++ (⟨args.map (den E)⟩ : Array Value)).extract 1 (#[Value.iface t (den E v)] ++ (⟨args.map (den E)⟩ : Array Value)).size = (⟨args.map (den E)⟩ : Array Value) := by
                    apply Array.ext'
                    simp [List.take_of_length_le]
                  simp only [e1, e2]
                  simp only [callMethod, Sem.run_bind, run_program', Result.andThen_ok, meth_ok hm]
                  rw [callFunc_enter hf (hnm f fn hf (by rw [hcd]; rfl)) hcd]
                  simp
                · intro a ha
                  rcases List.mem_cons.1 ha with rfl | ha
                  · exact h2
                  · exact h1.2 a ha
              · cases hbd
            · cases hbd
          · cases h
        · cases h
      · cases h
  · cases h
theorem makeMap_ok {t : TypeId} {q : Option Operand} {r : AR} {o : Oper} (ho : o.op = .makeMap t q) (hR : Rep P E R n w) (h : aMakeMap n q = some r) : ROk P E R n w r ((execOp ρ o).run P w) := by
  unfold aMakeMap at h
  split at h
  · simp only [Option.some.injEq] at h; subst h
    have hx := E.ext n w.heap.size 0
    refine ⟨E.new n w.heap.size 0, w.alloc (.map #[] 0), .inl ?_, by simp [AV.bd, effN], stp_new hx (by simp) (fun g q h => (hR.bd g q h).1) rfl rfl rfl rfl, rep_new hR hx (by simp) rfl ?_ (by simp [AO.bd]), (fun h => by cases h), (fun _ _ h => by cases h)⟩
    · simp only [execOp, ho]
      refine run_v_ok ?_
      simp [Instr.makeMap, den]
    · show (w.heap.push (.map #[] 0))[(E.new n w.heap.size 0).ρ n]? = _
      simp
  · cases h
theorem range_ok {t : TypeId} {x : Operand} {r : AR} {o : Oper} (ho : o.op = .range t x) (hR : Rep P E R n w) (hE : EvOk E n ev ρ) (h : aRange P ev R n t x = some r) : ROk P E R n w r ((execOp ρ o).run P w) := by
  unfold aRange at h
  split at h
  · rename_i kt e hu
    split at h
    · rename_i g hx
      have hx1 : ρ x = .map (some (E.ρ g)) := (hE _ _ hx).1
      split at h
      · rename_i es cl hg
        simp only [Option.some.injEq] at h; subst h
        have hge := getObj_map hR hg
        have hgn := (hR.bd g _ hg).1
        have hxt := E.ext n w.heap.size 0
        have hρ : (E.new n w.heap.size 0).ρ g = E.ρ g := hxt.ρ g hgn
        refine ⟨E.new n w.heap.size 0, w.alloc (.mapIter (some (E.ρ g)) cl #[] cl), .inl ?_, by simp [AV.bd, effN], stp_new hxt (by simp) (fun g q h => (hR.bd g q h).1) rfl rfl rfl rfl, rep_new hR hxt (by simp) rfl ?_ (Nat.lt_succ_of_lt hgn), (fun h => by cases h), (fun _ _ h => by cases h)⟩
        · simp only [execOp, ho, hx1]
          refine run_v_ok ?_
          simp [Instr.range, run_underlying hu, hge, den]
        · show (w.heap.push (.mapIter (some (E.ρ g)) cl #[] cl))[(E.new n w.heap.size 0).ρ n]? = some (.mapIter (some ((E.new n w.heap.size 0).ρ g)) cl #[] cl)
          rw [hρ]
          simp
      · cases h
    · cases h
  · cases h
theorem next_ok {x : Operand} {s : Bool} {r : AR} {o : Oper} (ho : o.op = .next x s) (hR : Rep P E R n w) (hE : EvOk E n ev ρ) (h : aNext ev R x s = some r) : ROk P E R n w r ((execOp ρ o).run P w) := by
  unfold aNext at h
  split at h
  · cases h
  · split at h
    · rename_i i hx
      have hx1 : ρ x = .pointer (some ⟨E.ρ i, 0, none⟩) := (hE _ _ hx).1
      split at h
      · rename_i g cl hi
        have hob : w.heap[E.ρ i]? = some (.mapIter (some (E.ρ g)) cl #[] cl) := hR.obj i _ hi
        have hgi : (getObj (E.ρ i)).run P w = .ok (.mapIter (some (E.ρ g)) cl #[] cl) w := by simp [getObj, Sem.run, hob]
        split at h
        · rename_i cl2 hg
          simp only [Option.some.injEq] at h; subst h
          have hge := getObj_map hR hg
          refine .pure hR ?_ ⟨trivial, trivial⟩
          simp only [execOp, ho, hx1]
          refine run_v_ok ?_
          simp only [List.map_nil] at hge
          simp [Instr.next, hgi, hge, choose, Sem.run, Question.forced, den, denL]
        · cases h
      · cases h
    · cases h
theorem opA_ok {se : List TypeId} {r : AR} {o : Oper} (hnm : NmOk P) (hse : SeOk P se) (hR : Rep P E R n w) (hE : EvOk E n ev ρ) (h : opA P se ev R n o.op = some r) : ROk P E R n w r ((execOp ρ o).run P w) := by
  cases ho : o.op <;> rw [ho] at h <;> simp only [opA] at h
  case move x => exact move_ok (.inl ho) hR hE h
  case assign x => exact move_ok (.inr ho) hR hE h
  case pick => exact pick_ok ho hR hE h
  case alloc => exact alloc_ok ho hR h
  case box => exact box_ok ho hR hE h
  case build => exact build_ok ho hR hE h
  case buildSlice => exact bs_ok ho hR hE h
  case load => exact loado_ok ho hR hE h
  case store => exact store_ok ho hR hE h
  case nilCheck => exact nil_ok ho hR hE h
  case binOp => exact bino_ok hse ho hR hE h
  case unOp => exact uno_ok ho hR hE h
  case convert => exact conv_ok ho hR hE h
  case makeInterface => exact iface_ok ho hR hE h
  case makeFunc => exact mf_ok ho hR hE h
  case range => exact range_ok ho hR hE h
  case next => exact next_ok ho hR hE h
  case makeMap => exact makeMap_ok ho hR h
  case makeSlice => exact ms_ok ho hR hE h
  case slice => exact slice_ok ho hR hE h
  case fieldAddr => exact fa_ok ho hR hE h
  case field => exact field_ok ho hR hE h
  case indexAddr => exact ia_ok ho hR hE h
  case index => exact index_ok ho hR hE h
  case lookup => exact lookup_ok hse ho hR hE h
  case mapUpdate => exact mapUpdate_ok hse ho hR hE h
  case typeAssert => exact assert_ok ho hR hE h
  case extract => exact extract_ok ho hR hE h
  case call => exact call_ok hnm ho hR hE h
  case defer => exact defer_ok ho hR hE h
  case panic => exact panic_ok ho hR hE h
  all_goals cases h
end ops
end
end Go.Proofs.YtgooihjcaoajnaaGreat.Ev
