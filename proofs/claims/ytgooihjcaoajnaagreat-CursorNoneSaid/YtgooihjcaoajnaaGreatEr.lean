/- Functions that compute alone: they may be called at whatever time. -/
import Derived.Test.YtgooihjcaoajnaaGreatEk
import Derived.Recover
import Derived.LoopN
import Derived.Deep.RegionHeld3
set_option linter.unusedVariables false
set_option linter.unusedSimpArgs false
namespace Go.Proofs.YtgooihjcaoajnaaGreat.Ev
open Go Go.RowKit

section
variable (P : Program) (se : List TypeId)
def finishA (fn : Func) (F : Fr) (A : AS) : Option AV := match resA P F A fn.results.toList with
  | some [v] => some v
  | some l => some (.tu l)
  | none => none

end
section
variable (P : Program) (se : List TypeId)
def pOps (n0 : Nat) (ops : Array Oper) : List Oper → Fr → Option Fr
  | [], F => some F
  | o :: r, F => match wantedA F ops o with
    | false => match putF F o.dst undefA with
      | some F => pOps n0 ops r F
      | none => none
    | true => match opA P se F.ev (fun _ => none) n0 o.op with
      | some (.val v .none) => match putF F o.dst v with
        | some F => pOps n0 ops r F
        | none => none
      | _ => none
def pCode (n0 : Nat) : Nat → Code → Fr → Option (Bool × Fr)
  | 0, _, _ => none
  | k + 1, c, F => match c with
    | .skip => some (false, F)
    | .label _ => some (false, F)
    | .region _ ops draw => (match draw with
      | false => (match pOps P se n0 ops ops.toList F with
        | some F => some (false, F)
        | none => none)
      | true => none)
    | .seq a b => (match pCode n0 k a F with
      | some (false, F) => pCode n0 k b F
      | some (true, F) => some (true, F)
      | none => none)
    | .cond c a b => (match F.ev c with
      | some (.b true) => pCode n0 k a F
      | some (.b false) => pCode n0 k b F
      | _ => none)
    | .ret => some (true, F)
    | _ => none
def flatV : AV → Bool
  | .i _ _ => true
  | .b _ => true
  | .y _ _ => true
  | _ => false
theorem flatV_bd {v : AV} {n : Nat} (h : flatV v = true) : v.bd n := by
  cases v <;> first | trivial | cases h
def pCall (n0 : Nat) (f : FuncId) (args : List AV) : Option AV := match P.funcs[f]? with
  | some fn => match fn.body with
    | some c => match Nat.ble args.length fn.ntmps with
      | true => match Nat.ble fn.ntmps 1000000 with
        | true => match pCode P se n0 20 c ⟨fn.ntmps, argT args 0 .e, []⟩ with
          | some (_, F) => match F.ds with
            | [] => (match finishA P fn F ⟨n0, .e⟩ with
              | some v => (match flatV v with
                | true => some v
                | false => none)
              | none => none)
            | _ => none
          | none => none
        | false => none
      | false => none
    | none => none
  | none => none
end
section
variable {P : Program} {se : List TypeId}
theorem argT_get : ∀ (l : List AV) (i : Nat) (t : T AV) (j : Nat), i + l.length ≤ 1000000 → (argT l i t).get j = if i ≤ j ∧ j < i + l.length then l[j - i]? else t.get j
  | [], i, t, j, _ => by
    simp only [argT, List.length_nil, Nat.add_zero]
    rw [if_neg (by omega)]
  | a :: l, i, t, j, h => by
    simp only [List.length_cons] at h
    simp only [argT]
    rw [argT_get l (i + 1) _ j (by omega), T.get_put (some a) 40 t i j (pow40 (by omega))]
    simp only [List.length_cons]
    by_cases h1 : i + 1 ≤ j ∧ j < i + 1 + l.length
    · rw [if_pos h1, if_pos (by omega)]
      have : j - i = (j - (i + 1)) + 1 := by omega
      rw [this]; rfl
    · rw [if_neg h1]
      by_cases h2 : j = i
      · subst h2
        rw [if_pos rfl, if_pos (by omega)]
        simp
      · rw [if_neg h2, if_neg (by omega)]
theorem enter_frame {E : En} {n : Nat} {args : List AV} {k : Nat} (hl : args.length ≤ k) (hk : k ≤ 1000000) (hb : ∀ v ∈ args, AV.bd n v) :
    RF E n ⟨k, argT args 0 .e, []⟩ { tmps := (⟨args.map (den E)⟩ : Array Value) ++ Array.replicate (k - (⟨args.map (den E)⟩ : Array Value).size) undef, defers := [] } := by
  have hg : ∀ j, (argT args 0 .e).get j = args[j]? := by
    intro j
    rw [argT_get args 0 .e j (by omega)]
    by_cases h : j < args.length
    · rw [if_pos (by omega)]; simp
    · rw [if_neg (by omega), List.getElem?_eq_none (by omega)]; rfl
  refine ⟨by simp; omega, ?_, ?_, rfl, by simp, hk⟩
  · intro j
    show _ = den E (((argT args 0 .e).get j).getD undefA)
    rw [hg j]
    simp only [Array.getD_eq_getD_getElem?, Array.getElem?_append, List.size_toArray, List.length_map]
    by_cases h : j < args.length
    · simp [h]
    · rw [List.getElem?_eq_none (by omega : args.length ≤ j)]
      simp only [h, if_false]
      by_cases h2 : j - args.length < k - args.length
      · simp [h2, den, undefA, undef, denL]
      · simp [h2, den, undefA, undef, denL]
  · intro j v hv
    have hv' : (argT args 0 .e).get j = some v := hv
    rw [hg j] at hv'
    exact hb v (List.mem_of_getElem? hv')
def resV (tmps : Array Value) : ResultVar → Sem Value
  | .tmp t => pure (tmps.getD t undef)
  | .cell x t => do loadVar t (← asAddr (tmps.getD x undef))
theorem results_eq (fn : Func) (tmps : Array Value) : results fn tmps = (do
    let vs ← fn.results.mapM (resV tmps)
    pure (if h : vs.size = 1 then vs[0] else .tuple vs)) := by
  unfold results
  have : (fun x : ResultVar => match x with
    | .tmp t => (pure (tmps.getD t undef) : Sem Value)
    | .cell a t => do loadVar t (← asAddr (tmps.getD a undef))) = resV tmps := by
    funext x
    cases x <;> rfl
  rw [← this]
  rfl
theorem resA_ok {E : En} {A : AS} {F : Fr} {a : Act} {w : World} (hF : RF E A.nxt F a) (hR : Rep P E A.heap.get A.nxt w) : ∀ {l : List ResultVar} {vs : List AV}, resA P F A l = some vs →
    (l.mapM (resV a.tmps)).run P w = .ok (vs.map (den E)) w ∧ ∀ v ∈ vs, AV.bd A.nxt v
  | [], vs, h => by simp only [resA, Option.some.injEq] at h; subst h; exact ⟨rfl, by simp⟩
  | .tmp t :: l, vs, h => by
    simp only [resA] at h
    split at h
    · rename_i vs' hvs
      have ih := resA_ok hF hR hvs
      have ht := hF.tm t
      split at h
      · rename_i v hv
        simp only [Option.some.injEq] at h; subst h
        rw [hv] at ht
        refine ⟨?_, ?_⟩
        · simp only [List.mapM_cons, resV, Sem.run_bind, Sem.run_pure, Result.andThen_ok, ih.1, ht, List.map_cons, Option.getD_some]
        · intro u hu
          rcases List.mem_cons.1 hu with rfl | hu
          · exact hF.bd t _ hv
          · exact ih.2 u hu
      · rename_i hv
        simp only [Option.some.injEq] at h; subst h
        rw [hv] at ht
        refine ⟨?_, ?_⟩
        · simp only [List.mapM_cons, resV, Sem.run_bind, Sem.run_pure, Result.andThen_ok, ih.1, ht, List.map_cons, Option.getD_none]
        · intro u hu
          rcases List.mem_cons.1 hu with rfl | hu
          · exact trivial
          · exact ih.2 u hu
    · cases h
  | .cell x t :: l, vs, h => by
    simp only [resA] at h
    split at h
    · rename_i vs' hvs
      have ih := resA_ok hF hR hvs
      have ht := hF.tm x
      split at h
      · rename_i g o hx
        split at h
        · rename_i v hv
          simp only [Option.some.injEq] at h; subst h
          rw [hx] at ht
          have hl := load_ok hR hv
          refine ⟨?_, ?_⟩
          · simp only [List.mapM_cons, resV, Sem.run_bind, Sem.run_pure, Result.andThen_ok, ih.1, ht, List.map_cons, Option.getD_some, den, asAddr, hl.1]
          · intro u hu
            rcases List.mem_cons.1 hu with rfl | hu
            · exact hl.2
            · exact ih.2 u hu
        · cases h
      · cases h
    · cases h
theorem finish_ok {E : En} {A : AS} {F : Fr} {a : Act} {w : World} {fn : Func} {v : AV} (hF : RF E A.nxt F a) (hR : Rep P E A.heap.get A.nxt w) (h : finishA P fn F A = some v) :
    (results fn a.tmps).run P w = .ok (den E v) w ∧ v.bd A.nxt := by
  unfold finishA at h
  have hm : ∀ vs, resA P F A fn.results.toList = some vs → (results fn a.tmps).run P w = .ok (if h : (vs.map (den E)).toArray.size = 1 then (vs.map (den E)).toArray[0] else .tuple (vs.map (den E)).toArray) w := by
    intro vs hvs
    have := (resA_ok hF hR hvs).1
    rw [results_eq, Array.mapM_eq_mapM_toList]
    simp only [Sem.run_bind, Sem.run_map, this, Result.andThen_ok, Sem.run_pure]
  split at h
  · rename_i u hu
    simp only [Option.some.injEq] at h; subst h
    have := hm _ hu
    refine ⟨by rw [this]; rfl, (resA_ok hF hR hu).2 _ (by simp)⟩
  · rename_i l hne hl
    simp only [Option.some.injEq] at h; subst h
    have := hm _ hl
    refine ⟨?_, bdL_iff.2 (resA_ok hF hR hl).2⟩
    rw [this]
    rw [dif_neg ?_]
    · simp [den]
    · intro h1
      simp only [List.size_toArray, List.length_map] at h1
      match l, h1 with
      | [u], _ => exact hne u rfl
  · cases h

theorem rep_none (E : En) (n : Nat) (w : World) : Rep P E (fun _ => none) n w := ⟨fun g o h => by (cases h), fun g o h => by (cases h), fun g h o o' h1 => by (cases h1)⟩
theorem op_any (hnm : NmOk P) (hse : SeOk P se) {o : Oper} {E : En} {n : Nat} {ev : Operand → Option AV} {ρ : Operand → Value} {v : AV} (hE : EvOk E n ev ρ)
    (hop : opA P se ev (fun _ => none) n o.op = some (.val v .none)) : (∀ w', (execOp ρ o).run P w' = .ok (.value (den E v)) w') ∧ v.bd n := by
  have hany : ∀ w', (execOp ρ o).run P w' = .ok (.value (den E v)) w' ∧ v.bd n := fun w' => by
    obtain ⟨E', w1, hres, hvb, hst, hrep, hnone, -⟩ := opA_ok hnm hse (rep_none E n w') hE hop
    exact ⟨hnone rfl, hvb⟩
  exact ⟨fun w' => (hany w').1, (hany default).2⟩
theorem pOps_ok (hnm : NmOk P) (hse : SeOk P se) {E : En} {n : Nat} (ops : Array Oper) :
    ∀ (rest : List Oper) (i : Nat) (F F' : Fr) (a : Act) (w : World) (Q : Exit → Act → World → Prop), ops.toList.drop i = rest → pOps P se n ops rest F = some F' → RF E n F a →
      (∀ a', RF E n F' a' → Q .normal a' w) → wpOps P ops Q (List.range' i rest.length) a w
  | [], i, F, F', a, w, Q, hd, h, hF, hQ => by
    simp only [pOps, Option.some.injEq] at h
    subst h
    exact hQ a hF
  | o :: rest, i, F, F', a, w, Q, hd, h, hF, hQ => by
    have hi : ops[i]? = some o := by
      have : (ops.toList.drop i)[0]? = some o := by rw [hd]; rfl
      rw [List.getElem?_drop] at this
      simpa using this
    have hd' : ops.toList.drop (i + 1) = rest := by
      have : (ops.toList.drop i).drop 1 = rest := by rw [hd]; rfl
      rwa [List.drop_drop] at this
    rw [List.length_cons, List.range'_succ, wpOps_cons]
    unfold wpOp
    simp only [hi]
    rw [wanted_eq hF]
    simp only [pOps] at h
    split at h
    · rename_i hw
      rw [hw, if_neg (by simp)]
      split at h
      · rename_i F1 hp
        exact pOps_ok hnm hse ops rest (i + 1) F1 F' _ w Q hd' h (hF.put hp trivial) hQ
      · cases h
    · rename_i hw
      rw [hw, if_pos rfl]
      refine .inl ?_
      split at h
      · rename_i v hop
        split at h
        · rename_i F1 hp
          have := op_any hnm hse hF.ev hop
          unfold Oper.wp
          rw [this.1 w]
          exact pOps_ok hnm hse ops rest (i + 1) F1 F' _ w Q hd' h (hF.put hp this.2) hQ
        · cases h
      · cases h
theorem pCode_ok (hnm : NmOk P) (hse : SeOk P se) {E : En} {n : Nat} : ∀ (k : Nat) (c : Code) (F : Fr) (b : Bool) (F' : Fr) (a : Act) (w : World) (Q : Exit → Act → World → Prop), pCode P se n k c F = some (b, F') → RF E n F a →
      (∀ a', RF E n F' a' → Q (match b with | true => .ret | false => .normal) a' w) → c.wp P Q a w
  | 0, c, F, b, F', a, w, Q, h, _, _ => by simp [pCode] at h
  | k + 1, c, F, b, F', a, w, Q, h, hF, hQ => by
    cases c with
    | skip =>
      simp only [pCode, Option.some.injEq, Prod.mk.injEq] at h
      obtain ⟨rfl, rfl⟩ := h
      exact wp_skip (hQ a hF)
    | label l =>
      simp only [pCode, Option.some.injEq, Prod.mk.injEq] at h
      obtain ⟨rfl, rfl⟩ := h
      exact wp_label (hQ a hF)
    | ret =>
      simp only [pCode, Option.some.injEq, Prod.mk.injEq] at h
      obtain ⟨rfl, rfl⟩ := h
      exact wp_ret (hQ a hF)
    | region id ops draw =>
      cases draw
      · simp only [pCode] at h
        split at h
        · rename_i F1 h1
          simp only [Option.some.injEq, Prod.mk.injEq] at h
          obtain ⟨rfl, rfl⟩ := h
          refine wp_region ?_
          have := pOps_ok hnm hse ops ops.toList 0 F F1 a w Q rfl h1 hF hQ
          rw [Array.length_toList] at this
          rw [List.range_eq_range']
          exact this
        · cases h
      · simp only [pCode] at h; cases h
    | seq x y =>
      simp only [pCode] at h
      refine wp_seq ?_
      split at h
      · rename_i F1 h1
        exact pCode_ok hnm hse k x F false F1 a w _ h1 hF fun a' h2 => pCode_ok hnm hse k y F1 b F' a' w Q h h2 hQ
      · rename_i F1 h1
        simp only [Option.some.injEq, Prod.mk.injEq] at h
        obtain ⟨rfl, rfl⟩ := h
        exact pCode_ok hnm hse k x F true F1 a w _ h1 hF fun a' h2 => hQ a' h2
      · cases h
    | cond c x y =>
      simp only [pCode] at h
      split at h
      · rename_i hc
        exact wp_cond_true (hF.ev _ _ hc).1 (pCode_ok hnm hse k x F b F' a w Q h hF hQ)
      · rename_i hc
        exact wp_cond_false (hF.ev _ _ hc).1 (pCode_ok hnm hse k y F b F' a w Q h hF hQ)
      · cases h
    | exit => simp only [pCode] at h; cases h
    | block => simp only [pCode] at h; cases h
    | loop => simp only [pCode] at h; cases h
    | rangeFunc => simp only [pCode] at h; cases h
    | scope => simp only [pCode] at h; cases h
    | goto => simp only [pCode] at h; cases h
    | refuse => simp only [pCode] at h; cases h
theorem pCall_ok (hnm : NmOk P) (hse : SeOk P se) {E : En} {n : Nat} {f : FuncId} {args : List AV} {v : AV} (h : pCall P se n f args = some v) (hb : ∀ x ∈ args, AV.bd n x) :
    (∀ w, Calls P f ⟨args.map (den E)⟩ w fun e w' => e = .returned (den E v) ∧ w' = w) ∧ v.bd n := by
  simp only [pCall] at h
  split at h
  · rename_i fn hf
    split at h
    · rename_i c hc
      split at h
      · rename_i hl
        have hl := Nat.le_of_ble_eq_true hl
        split at h
        · rename_i hk
          have hk := Nat.le_of_ble_eq_true hk
          split at h
          · rename_i b F1 hcd
            split at h
            · rename_i hds
              split at h
              case h_2 => cases h
              rename_i v1 hfin
              split at h
              case h_2 => cases h
              rename_i hfl
              simp only [Option.some.injEq] at h
              subst h
              have hfr := enter_frame (E := E) hl hk hb
              have key : ∀ w, Calls P f ⟨args.map (den E)⟩ w fun e w' => (e = .returned (den E v1) ∧ w' = w) ∧ v1.bd n := by
                intro w
                refine calls_of_wp_defers hf hc (pCode_ok hnm hse 20 c _ b F1 _ w _ hcd hfr ?_)
                intro a' h2
                have hr := finish_ok (A := ⟨n, .e⟩) h2 (by
                  have : (T.get (.e : T AO)) = fun _ => none := by funext j; simp [T.get]
                  show Rep P E (T.get .e) n w
                  rw [this]
                  exact rep_none E n w) hfin
                have hd : a'.defers = [] := by rw [h2.ds, hds]; rfl
                have fin : Leaves P fn a'.tmps (fun e w' => (e = .returned (den E v1) ∧ w' = w) ∧ v1.bd n) a'.defers .returning w := by
                  rw [hd]
                  exact ⟨_, hr.1, ⟨rfl, rfl⟩, hr.2⟩
                cases b
                · exact fin
                · exact fin
              exact ⟨fun w => (key w).mono fun e w' h => h.1, flatV_bd hfl⟩
            · cases h
          · cases h
        · cases h
      · cases h
    · cases h
  · cases h
end
/-! ### What yields the same at whatever time -/
section
variable {P : Program} {ops : Array Oper} {Q : Exit → Act → World → Prop} {S S' : World → Prop}
/-- a call that yields one value in whatever world, and leaves the world as it is -/
def YieldsC (P : Program) (ops : Array Oper) (o : Oper) (v : Value) (a : Act) : Prop :=
  Region.wanted o (yielded ops a.tmps) = true ∧ ∃ f args, (∀ w, (execOp a.eval o).run P w = .ok (.enter f args) w) ∧ ∀ w, Calls P f args w fun e w' => e = .returned v ∧ w' = w
theorem YieldsC.of_same {o : Oper} {v : Value} {a a' : Act} (hy : YieldsC P ops o v a) (he : execOp a'.eval o = execOp a.eval o)
    (hw : Region.wanted o (yielded ops a'.tmps) = Region.wanted o (yielded ops a.tmps)) : YieldsC P ops o v a' := by
  unfold YieldsC at *
  rw [he, hw]
  exact hy
theorem YieldsC.wpOp {i : Nat} {o : Oper} {v : Value} {a : Act} (hi : ops[i]? = some o) (hy : YieldsC P ops o v a)
    {K : Act → World → Prop} {w : World} (h : K (a.put o.dst v) w) : wpOp P ops Q i K a w := by
  obtain ⟨hw, f, args, hr, hc⟩ := hy
  unfold Go.wpOp
  simp only [hi, hw, if_true]
  refine .inl ?_
  unfold Oper.wp
  rw [hr w]
  refine (hc w).mono ?_
  rintro e w' ⟨rfl, rfl⟩
  exact h
theorem wpOp_putC {j : Nat} {oi oj : Oper} {v : Value} (hj : ops[j]? = some oj) (hap : oi.apart ops oj = true)
    (hsi : ∀ cs b, oi.op ≠ .select cs b) (hsj : ∀ cs b, oj.op ≠ .select cs b)
    (hQ : ∀ c a w, Q (.panic c) (a.put oi.dst v) w → Q (.panic c) a w) {K : Act → World → Prop} {a : Act} {w : World}
    (hy : YieldsC P ops oi v a) (h : Go.wpOp P ops Q j K (a.put oi.dst v) w) :
    Go.wpOp P ops Q j (fun a' w' => YieldsC P ops oi v a' ∧ K (a'.put oi.dst v) w') a w := by
  obtain ⟨h1, h2, h3⟩ := Oper.apart_spec hap
  have keep : ∀ (a : Act), YieldsC P ops oi v a → ∀ u, YieldsC P ops oi v (a.put oj.dst u) := fun a hy u =>
    hy.of_same (execOp_put oi hsi a oj.dst u h3) (wanted_put oi a oj.dst u h3)
  have keepD : ∀ d, YieldsC P ops oi v { a with defers := d :: a.defers } := fun d => hy.of_same rfl rfl
  unfold Go.wpOp at *
  simp only [hj] at *
  rw [wanted_put oj a oi.dst v h1] at h
  split
  · rename_i hw
    simp only [hw, if_true] at h
    rcases h with h | ⟨hasks, hlets⟩
    case inr => exact .inr ⟨by unfold Oper.asks at *; rw [execOp_put oj hsj a oi.dst v h1] at hasks; exact hasks, hlets⟩
    refine .inl ?_
    unfold Oper.wp at *
    rw [execOp_put oj hsj a oi.dst v h1] at h
    generalize (execOp a.eval oj).run P w = r at *
    cases r with
    | ok n w' =>
      cases n <;> simp only [Oper.upon] at h ⊢
      case value u => exact ⟨keep a hy u, by rw [← Act.put_comm a v u h2]; exact h⟩
      case skip => exact ⟨keep a hy _, by rw [← Act.put_comm a v undef h2]; exact h⟩
      case defer d =>
        refine ⟨keep _ (keepD d) _, ?_⟩
        rw [← Act.put_comm _ v undef h2, ← Act.put_defers]
        exact h
      case enter f args =>
        refine Calls.mono h fun e w'' he => ?_
        cases e with
        | returned u => exact ⟨keep a hy u, by rw [← Act.put_comm a v u h2]; exact he⟩
        | panicked c => exact hQ _ _ _ he
        | outgrown => exact he
      case row row args => exact Rows.mono h fun u w'' he => ⟨keep a hy u, by rw [← Act.put_comm a v u h2]; exact he⟩
    | halt x w' =>
      cases x <;> simp only [Oper.upon] at h ⊢
      case panic u => exact hQ _ _ _ h
  · rename_i hw
    simp only [hw] at h
    exact ⟨keep a hy _, by rw [← Act.put_comm a v undef h2]; exact h⟩
theorem wpAny_firstC {i : Nat} {oi : Oper} {v : Value} (hi : ops[i]? = some oi) (hsel : ∀ (j : Nat) (o : Oper) cs b, ops[j]? = some o → o.op ≠ .select cs b)
    (hQ : ∀ c a w, Q (.panic c) (a.put oi.dst v) w → Q (.panic c) a w) :
    ∀ (fuel : Nat) (listed : Array Bool) (a : Act) (w : World),
      (∀ j oj, ops[j]? = some oj → j ≠ i → listed.getD j true = false → (∀ e ∈ oj.after, Region.binds .any e = true → e.on ≠ i) → oi.apart ops oj = true) →
      i ∈ Region.ready .any ops listed → YieldsC P ops oi v a →
      wpAny P .any ops Q fuel (listed.setIfInBounds i true) (a.put oi.dst v) w → wpAny P .any ops Q (fuel + 1) listed a w := by
  intro fuel
  induction fuel with
  | zero =>
    intro listed a w _ hr hy H
    refine ⟨fun h => (by rw [h] at hr; cases hr), fun j hj => ?_⟩
    by_cases hji : j = i
    · subst hji
      exact hy.wpOp hi H
    · have := ready_mono hj hji
      rw [H.1] at this
      cases this
  | succ fuel ih =>
    intro listed a w hfree hr hy H
    refine ⟨fun h => (by rw [h] at hr; cases hr), fun j hj => ?_⟩
    by_cases hji : j = i
    · subst hji
      exact hy.wpOp hi H
    · have h1 := H.2 j (ready_mono hj hji)
      have hun : listed.getD i true = false := (mem_ready.1 hr).1
      obtain ⟨hjun, oj, hoj, hall⟩ := mem_ready.1 hj
      have hnot : ∀ e ∈ oj.after, Region.binds .any e = true → e.on ≠ i := fun e he hb heq => by
        have h1 := hall e he hb
        rw [heq] at h1
        rcases Nat.lt_or_ge i listed.size with h' | h'
        · simp [h'] at hun h1; rw [hun] at h1; cases h1
        · simp [Array.getElem?_eq_none h'] at h1
      have h2 := wpOp_putC hoj (hfree j oj hoj hji hjun hnot) (fun cs b => hsel i oi cs b hi) (fun cs b => hsel j oj cs b hoj) hQ hy h1
      have hfree' : ∀ k ok, ops[k]? = some ok → k ≠ i → (listed.setIfInBounds j true).getD k true = false →
          (∀ e ∈ ok.after, Region.binds .any e = true → e.on ≠ i) → oi.apart ops ok = true := fun k ok hk hki hun hno => by
        refine hfree k ok hk hki ?_ hno
        by_cases hjk : j = k
        · subst hjk; exact hjun
        · rw [getD_set_ne true hjk] at hun; exact hun
      refine wpOp_mono (fun a' w' h3 => ?_) h2
      refine ih (listed.setIfInBounds j true) a' w' hfree' (ready_mono hr (Ne.symm hji)) h3.1 ?_
      rw [Array.setIfInBounds_comm _ _ hji]
      exact h3.2
end
end Go.Proofs.YtgooihjcaoajnaaGreat.Ev
