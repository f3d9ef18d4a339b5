/- Frames, and operations one behind the other. -/
import Derived.Test.YtgooihjcaoajnaaGreatEj
set_option linter.unusedVariables false
set_option linter.unusedSimpArgs false
namespace Go.Proofs.YtgooihjcaoajnaaGreat.Ev
open Go Go.RowKit

structure RF (E : En) (n : Nat) (F : Fr) (a : Act) : Prop where
  size : a.tmps.size = F.n
  tm : ∀ j, a.tmps.getD j undef = den E ((F.tm.get j).getD undefA)
  bd : ∀ j v, F.tm.get j = some v → v.bd n
  ds : a.defers = F.ds.map (denD E)
  dbd : ∀ d ∈ F.ds, d.bd n
  nlt : F.n ≤ 1000000
theorem ADef.bd_mono {n m : Nat} (h : n ≤ m) {d : ADef} (hd : d.bd n) : d.bd m := ⟨fun v hv => AV.bd_mono h (hd.1 v hv), fun v hv => AV.bd_mono h (hd.2 v hv)⟩
theorem denD_ext {n : Nat} {E E' : En} (h : Ext n E E') {d : ADef} (hd : d.bd n) : denD E' d = denD E d := by
  unfold denD
  rw [map_ext h hd.1, map_ext h hd.2]
theorem undefA_bd (n : Nat) : undefA.bd n := trivial
theorem getD_bd {n : Nat} {x : Option AV} (h : ∀ v, x = some v → v.bd n) : (x.getD undefA).bd n := by
  cases x with
  | none => exact trivial
  | some v => exact h v rfl
theorem RF.ext {E E' : En} {n n' : Nat} {F : Fr} {a : Act} (h : RF E n F a) (hx : Ext n E E') (hn : n ≤ n') : RF E' n' F a :=
  ⟨h.size, fun j => by rw [h.tm j, den_ext hx (getD_bd (h.bd j))], fun j v hv => AV.bd_mono hn (h.bd j v hv),
    by rw [h.ds]; exact (List.map_congr_left fun d hd => denD_ext hx (h.dbd d hd)).symm, fun d hd => ADef.bd_mono hn (h.dbd d hd), h.nlt⟩
theorem RF.ev {E : En} {n : Nat} {F : Fr} {a : Act} (h : RF E n F a) : EvOk E n F.ev a.eval := by
  intro x v hv
  cases x with
  | tmp t =>
    simp only [Fr.ev] at hv
    have := h.tm t
    split at hv
    · rename_i u hu
      simp only [Option.some.injEq] at hv; subst hv
      rw [hu] at this
      exact ⟨this, h.bd t _ hu⟩
    · rename_i hu
      simp only [Option.some.injEq] at hv; subst hv
      rw [hu] at this
      exact ⟨this, trivial⟩
  | const c => exact ⟨(ofV_ok E n hv).1.symm, (ofV_ok E n hv).2⟩
  | global g => simp [Fr.ev] at hv
  | func f => simp only [Fr.ev, Option.some.injEq] at hv; subst hv; exact ⟨rfl, trivial, trivial⟩
theorem pow40 {k : Nat} (h : k ≤ 1000000000) : k + 1 < 2 ^ 40 := by
  have : (2 : Nat) ^ 40 = 1099511627776 := by decide
  omega
theorem RF.put {E : En} {n : Nat} {F F' : Fr} {a : Act} {d : Option Tmp} {v : AV} (h : RF E n F a) (hp : putF F d v = some F') (hv : v.bd n) : RF E n F' (a.put d (den E v)) := by
  unfold putF at hp
  split at hp
  · simp only [Option.some.injEq] at hp; subst hp; exact h
  · rename_i d
    split at hp
    · rename_i hd
      have hd : d < F.n := Nat.le_of_ble_eq_true hd
      simp only [Option.some.injEq] at hp; subst hp
      have hget : ∀ j, (F.tm.put 40 d (some v)).get j = if j = d then some v else F.tm.get j := fun j => T.get_put (some v) 40 F.tm d j (pow40 (Nat.le_trans (Nat.le_of_lt hd) (Nat.le_trans h.nlt (by decide))))
      refine ⟨by simp [Act.put, h.size], ?_, ?_, h.ds, h.dbd, h.nlt⟩
      · intro j
        simp only [Act.put]
        rw [show T.get (T.put 40 F.tm d (some v)) j = _ from hget j]
        by_cases e : j = d
        · subst e
          simp [h.size, hd]
        · rw [if_neg e, ← h.tm j]
          simp [Array.getElem?_setIfInBounds_ne (Ne.symm e)]
      · intro j u hu
        rw [show T.get (T.put 40 F.tm d (some v)) j = _ from hget j] at hu
        split at hu
        · simp only [Option.some.injEq] at hu; subst hu; exact hv
        · exact h.bd j u hu
    · cases hp
theorem applyE_ok {A A' : AS} {e : Eff} (h : applyE A e = some A') (hset : ∀ g o, e = .set g o ∨ e = .move g o → True) : A'.heap.get = effR e A.heap.get A.nxt ∧ A'.nxt = effN e A.nxt := by
  unfold applyE at h
  split at h
  · simp only [Option.some.injEq] at h; subst h; exact ⟨rfl, rfl⟩
  · rename_i o
    split at h
    · rename_i hb
      have hb := Nat.le_of_ble_eq_true hb
      simp only [Option.some.injEq] at h; subst h
      refine ⟨?_, rfl⟩
      funext j
      exact T.get_put (some o) 40 A.heap A.nxt j (pow40 hb)
    · cases h
  · rename_i g o
    split at h
    · rename_i hb
      have hb := Nat.le_of_ble_eq_true hb
      simp only [Option.some.injEq] at h; subst h
      refine ⟨?_, rfl⟩
      funext j
      exact T.get_put (some o) 40 A.heap g j (pow40 hb)
    · cases h
  · rename_i g o
    split at h
    · rename_i hb
      have hb := Nat.le_of_ble_eq_true hb
      split at h
      · rename_i hb2
        have hb2 := Nat.le_of_ble_eq_true hb2
        simp only [Option.some.injEq] at h; subst h
        refine ⟨?_, rfl⟩
        funext j
        show ((A.heap.put 40 g none).put 40 A.nxt (some o)).get j = _
        rw [T.get_put (some o) 40 _ A.nxt j (pow40 hb), T.get_put none 40 A.heap g j (pow40 hb2)]
        rfl
      · cases h
    · cases h
theorem bool_of {E : En} {v : AV} {b : Bool} (h : den E v = .bool b) : v = .b b := by
  cases v <;> simp [den] at h
  subst h; rfl
theorem wanted_eq {E : En} {n : Nat} {F : Fr} {a : Act} (h : RF E n F a) (ops : Array Oper) (o : Oper) : Region.wanted o (yielded ops a.tmps) = wantedA F ops o := by
  unfold Region.wanted wantedA
  cases hg : o.guard with
  | none => rfl
  | some gw =>
    obtain ⟨g, want⟩ := gw
    simp only
    have hy : yielded ops a.tmps g = match (ops[g]?).bind (·.dst) with
        | some d => (match Nat.blt d F.n with
          | true => (match F.tm.get d with | some (.b x) => some x | _ => none)
          | false => none)
        | none => none := by
      unfold yielded
      cases hd : (ops[g]?).bind (·.dst) with
      | none => rfl
      | some d =>
        simp only [Option.bind_some]
        cases hb : Nat.blt d F.n with
        | false =>
          have : F.n ≤ d := by
            rcases Nat.lt_or_ge d F.n with h1 | h1
            · have : Nat.blt d F.n = true := Nat.ble_eq_true_of_le h1
              rw [hb] at this; cases this
            · exact h1
          rw [Array.getElem?_eq_none (by rw [h.size]; exact this)]
        | true =>
          have hlt : d < F.n := Nat.le_of_ble_eq_true hb
          have ht := h.tm d
          have e : a.tmps[d]? = some (a.tmps.getD d undef) := by
            rw [Array.getElem?_eq_getElem (by rw [h.size]; exact hlt)]
            simp [h.size, hlt]
          rw [e, ht]
          simp only
          cases hf : F.tm.get d with
          | none => rfl
          | some v =>
            simp only [Option.getD_some]
            cases v <;> rfl
    rw [hy]
    cases hd : (ops[g]?).bind (·.dst) with
    | none => rfl
    | some d =>
      simp only
      cases hb : Nat.blt d F.n with
      | false => rfl
      | true =>
        simp only
        cases hf : F.tm.get d with
        | none => rfl
        | some v => cases v <;> first | rfl | (simp; done)

/-- what is to be shown of a state that is come to -/
def QOk (P : Program) (E : En) (A : AS) (w : World) (e : AE) (F' : Fr) (A' : AS) (Q : Exit → Act → World → Prop) : Prop :=
  ∀ E' a' w', Stp E A.heap.get A.nxt w E' A'.heap.get A'.nxt w' → RF E' A'.nxt F' a' → Rep P E' A'.heap.get A'.nxt w' →
    match e with
    | .normal => Q .normal a' w'
    | .exit id => Q (.exit id) a' w'
    | .ret => Q .ret a' w'
    | .panic v => v.bd A'.nxt → Q (.panic [{ v := den E' v, recovered := false }]) a' w'
theorem QOk.trans {P : Program} {E E1 : En} {A A1 A' : AS} {w w1 : World} {e : AE} {F' : Fr} {Q : Exit → Act → World → Prop}
    (h : QOk P E A w e F' A' Q) (hs : Stp E A.heap.get A.nxt w E1 A1.heap.get A1.nxt w1) : QOk P E1 A1 w1 e F' A' Q :=
  fun E' a' w' h1 h2 h3 => h E' a' w' (hs.trans h1) h2 h3
def CallOk (P : Program) (call : FuncId → List AV → AS → Option (AEnd × AS)) : Prop :=
  ∀ f args A r A', call f args A = some (r, A') → ∀ E w, Rep P E A.heap.get A.nxt w → (∀ v ∈ args, AV.bd A.nxt v) →
    Calls P f ⟨args.map (den E)⟩ w fun e w' => ∃ E', Stp E A.heap.get A.nxt w E' A'.heap.get A'.nxt w' ∧ Rep P E' A'.heap.get A'.nxt w' ∧
      match r with
      | .ret v => e = .returned (den E' v) ∧ v.bd A'.nxt
      | .panic v => e = .panicked [{ v := den E' v, recovered := false }] ∧ v.bd A'.nxt
section
variable {P : Program} {se : List TypeId}
/-- one operation, whatever comes behind it -/
theorem op_step (hnm : NmOk P) (hse : SeOk P se) {call : FuncId → List AV → AS → Option (AEnd × AS)} (hcall : CallOk P call) {o : Oper} {F : Fr} {A : AS} {E : En} {a : Act} {w : World} {ar : AR}
    (hop : opA P se F.ev A.heap.get A.nxt o.op = some ar) (hF : RF E A.nxt F a) (hR : Rep P E A.heap.get A.nxt w) {K : Act → World → Prop} {Q : Exit → Act → World → Prop}
    (hK : match ar with
      | .val v e => ∃ A1 F1, applyE A e = some A1 ∧ putF F o.dst v = some F1 ∧ ∀ E' a' w', (∃ u, a' = a.put o.dst u) → Stp E A.heap.get A.nxt w E' A1.heap.get A1.nxt w' → RF E' A1.nxt F1 a' → Rep P E' A1.heap.get A1.nxt w' → K a' w'
      | .enter f args => ∃ r A1, call f args A = some (r, A1) ∧ match r with
        | .ret v => ∃ F1, putF F o.dst v = some F1 ∧ ∀ E' a' w', (∃ u, a' = a.put o.dst u) → Stp E A.heap.get A.nxt w E' A1.heap.get A1.nxt w' → RF E' A1.nxt F1 a' → Rep P E' A1.heap.get A1.nxt w' → K a' w'
        | .panic v => QOk P E A w (.panic v) F A1 Q
      | .defer d => ∃ F1, putF ⟨F.n, F.tm, d :: F.ds⟩ o.dst undefA = some F1 ∧ ∀ a', RF E A.nxt F1 a' → K a' w
      | .panic v => QOk P E A w (.panic v) F A Q
      | .recover => False) : o.wp P a w K Q := by
  have hr := opA_ok hnm hse hR hF.ev hop
  unfold Oper.wp
  cases ar with
  | val v e =>
    obtain ⟨A1, F1, hA, hput, hk⟩ := hK
    obtain ⟨E', w', hres, hvb, hst, hrep, -⟩ := hr
    obtain ⟨hA1, hA2⟩ := applyE_ok hA (fun _ _ _ => trivial)
    rw [← hA1, ← hA2] at hst hrep
    rw [← hA2] at hvb
    have hF' := (hF.ext hst.ext hst.le).put hput hvb
    rcases hres with hres | ⟨hres, rfl⟩
    · rw [hres]
      exact hk E' _ w' ⟨_, rfl⟩ hst hF' hrep
    · rw [hres]
      exact hk E' _ w' ⟨_, rfl⟩ hst hF' hrep
  | enter f args =>
    obtain ⟨r, A1, hc, hk⟩ := hK
    obtain ⟨hres, hb⟩ := hr
    rw [hres]
    refine (hcall f args A r A1 hc E w hR hb).mono ?_
    rintro e w' ⟨E', hst, hrep, hr⟩
    cases r with
    | ret v =>
      obtain ⟨rfl, hvb⟩ := hr
      obtain ⟨F1, hput, hk⟩ := hk
      exact hk E' _ w' ⟨_, rfl⟩ hst ((hF.ext hst.ext hst.le).put hput hvb) hrep
    | panic v =>
      obtain ⟨rfl, hvb⟩ := hr
      exact hk E' _ w' hst (hF.ext hst.ext hst.le) hrep hvb
  | defer d =>
    obtain ⟨F1, hput, hk⟩ := hK
    obtain ⟨hres, hdb⟩ := hr
    rw [hres]
    refine hk _ ?_
    have h1 : RF E A.nxt ⟨F.n, F.tm, d :: F.ds⟩ { a with defers := denD E d :: a.defers } :=
      ⟨hF.size, hF.tm, hF.bd, by simp [hF.ds], fun x hx => by
        rcases List.mem_cons.1 hx with rfl | hx
        · exact hdb
        · exact hF.dbd x hx, hF.nlt⟩
    exact h1.put hput trivial
  | panic v =>
    obtain ⟨hres, hvb⟩ := hr
    rw [hres]
    exact hK E a w (Stp.refl _ _ _ _) hF hR hvb
  | recover => exact hK.elim
theorem opsA_ok (hnm : NmOk P) (hse : SeOk P se) {call : FuncId → List AV → AS → Option (AEnd × AS)} (hcall : CallOk P call) (ops : Array Oper) :
    ∀ (rest : List Oper) (i : Nat) (F : Fr) (A : AS) (E : En) (a : Act) (w : World) (e : AE) (F' : Fr) (A' : AS) (Q : Exit → Act → World → Prop), ops.toList.drop i = rest →
      opsA P se call ops rest F A = some (e, F', A') → RF E A.nxt F a → Rep P E A.heap.get A.nxt w → QOk P E A w e F' A' Q → wpOps P ops Q (List.range' i rest.length) a w
  | [], i, F, A, E, a, w, e, F', A', Q, hd, h, hF, hR, hQ => by
    simp only [opsA, Option.some.injEq, Prod.mk.injEq] at h
    obtain ⟨rfl, rfl, rfl⟩ := h
    exact hQ E a w (Stp.refl _ _ _ _) hF hR
  | o :: rest, i, F, A, E, a, w, e, F', A', Q, hd, h, hF, hR, hQ => by
    have hi : ops[i]? = some o := by
      have : (ops.toList.drop i)[0]? = some o := by rw [hd]; rfl
      rw [List.getElem?_drop] at this
      simpa using this
    have hd' : ops.toList.drop (i + 1) = rest := by
      have : (ops.toList.drop i).drop 1 = rest := by rw [hd]; rfl
      rwa [List.drop_drop] at this
    rw [List.length_cons, List.range'_succ, wpOps_cons]
    unfold wpOp
    simp only [hi]
    rw [wanted_eq hF]
    simp only [opsA] at h
    split at h
    · rename_i hw
      rw [hw, if_pos rfl]
      refine .inl ?_
      split at h
      · rename_i v ef hop
        split at h
        · rename_i A1 hA
          split at h
          · rename_i F1 hp
            exact op_step hnm hse hcall hop hF hR ⟨A1, F1, hA, hp, fun E' a' w' _ h1 h2 h3 => opsA_ok hnm hse hcall ops rest (i + 1) F1 A1 E' a' w' e F' A' Q hd' h h2 h3 (hQ.trans h1)⟩
          · cases h
        · cases h
      · rename_i f args hop
        split at h
        · rename_i v A1 hc
          split at h
          · rename_i F1 hp
            exact op_step hnm hse hcall hop hF hR ⟨.ret v, A1, hc, F1, hp, fun E' a' w' _ h1 h2 h3 => opsA_ok hnm hse hcall ops rest (i + 1) F1 A1 E' a' w' e F' A' Q hd' h h2 h3 (hQ.trans h1)⟩
          · cases h
        · rename_i v A1 hc
          simp only [Option.some.injEq, Prod.mk.injEq] at h
          obtain ⟨rfl, rfl, rfl⟩ := h
          exact op_step hnm hse hcall hop hF hR ⟨.panic v, A1, hc, hQ⟩
        · cases h
      · rename_i d hop
        split at h
        · rename_i F1 hp
          exact op_step hnm hse hcall hop hF hR ⟨F1, hp, fun a' h2 => opsA_ok hnm hse hcall ops rest (i + 1) F1 A E a' w e F' A' Q hd' h h2 hR hQ⟩
        · cases h
      · rename_i v hop
        simp only [Option.some.injEq, Prod.mk.injEq] at h
        obtain ⟨rfl, rfl, rfl⟩ := h
        exact op_step hnm hse hcall hop hF hR hQ
      · cases h
      · cases h
    · rename_i hw
      rw [hw, if_neg (by simp)]
      split at h
      · rename_i F1 hp
        exact opsA_ok hnm hse hcall ops rest (i + 1) F1 A E _ w e F' A' Q hd' h (hF.put hp trivial) hR hQ
      · cases h
end
end Go.Proofs.YtgooihjcaoajnaaGreat.Ev
