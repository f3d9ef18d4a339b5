/- Calls, deferred calls: what the evaluator says comes true. -/
import Derived.Test.YtgooihjcaoajnaaGreatEm
set_option linter.unusedVariables false
set_option linter.unusedSimpArgs false
namespace Go.Proofs.YtgooihjcaoajnaaGreat.Ev
open Go Go.RowKit

section
variable {P : Program} {se : List TypeId} {G : FuncId → Nat → List PStep}
/-- what a call comes to -/
def CallPost (P : Program) (E : En) (A : AS) (w : World) (r : AEnd) (A' : AS) (e : Ending) (w' : World) : Prop :=
  ∃ E', Stp E A.heap.get A.nxt w E' A'.heap.get A'.nxt w' ∧ Rep P E' A'.heap.get A'.nxt w' ∧
    match r with
    | .ret v => e = .returned (den E' v) ∧ v.bd A'.nxt
    | .panic v => e = .panicked [{ v := den E' v, recovered := false }] ∧ v.bd A'.nxt
theorem CallPost.trans {E E1 : En} {A A1 A' : AS} {w w1 w' : World} {r : AEnd} {e : Ending} (hs : Stp E A.heap.get A.nxt w E1 A1.heap.get A1.nxt w1) (h : CallPost P E1 A1 w1 r A' e w') : CallPost P E A w r A' e w' := by
  obtain ⟨E', h1, h2, h3⟩ := h
  exact ⟨E', hs.trans h1, h2, h3⟩
def LeaveOk (P : Program) (se : List TypeId) (G : FuncId → Nat → List PStep) (n : Nat) : Prop :=
  ∀ (fn : Func) (F : Fr) (ds : List ADef) (m : AMode) (A : AS) (r : AEnd) (A' : AS), leaveA P se G n fn F ds m A = some (r, A') →
    ∀ (E : En) (a : Act) (w : World), RF E A.nxt F a → (∀ d ∈ ds, d.bd A.nxt) → m.bd A.nxt → Rep P E A.heap.get A.nxt w →
      Leaves P fn a.tmps (CallPost P E A w r A') (ds.map (denD E)) (denM E m) w
def CodeSOk (P : Program) (se : List TypeId) (G : FuncId → Nat → List PStep) (n : Nat) : Prop :=
  ∀ (f : FuncId) (c : Code) (F : Fr) (m : AMode) (A : AS) (e : AE) (F' : Fr) (m' : AMode) (A' : AS), codeS P se G n f c F m A = some (e, F', m', A') →
    ∀ (c₀ : Frame) (cs : List Frame) (E : En) (a : Act) (w : World) (Q : Exit → Act → List Frame → World → Prop), RF E A.nxt F a → m.bd A.nxt → Rep P E A.heap.get A.nxt w → QOkS P c₀ cs E A w e F' m' A' Q →
      c.wpS P Q a ({ c₀ with mode := denM E m } :: cs) w
def CallSOk (P : Program) (se : List TypeId) (G : FuncId → Nat → List PStep) (n : Nat) : Prop :=
  ∀ (f : FuncId) (args : List AV) (m : AMode) (A : AS) (m' : AMode) (A' : AS), callS P se G n f args m A = some (m', A') →
    ∀ (E : En) (w : World), (∀ v ∈ args, AV.bd A.nxt v) → m.bd A.nxt → Rep P E A.heap.get A.nxt w →
      (∃ fn c, P.funcs[f]? = some fn ∧ fn.body = some c) ∧
      CallsD P f ⟨args.map (den E)⟩ (denM E m) w fun e u' w' => ∃ E', Stp E A.heap.get A.nxt w E' A'.heap.get A'.nxt w' ∧ Rep P E' A'.heap.get A'.nxt w' ∧ m'.bd A'.nxt ∧ (∃ v, e = .returned v) ∧ u' = denM E' m'
theorem leaves_mono {fn : Func} {tmps : Array Value} {R R' : Ending → World → Prop} : ∀ {ds : List Deferred} {u : FrameMode} {w : World}, Leaves P fn tmps R ds u w → (∀ e w, R e w → R' e w) → Leaves P fn tmps R' ds u w
  | [], .returning, w, h, hr => let ⟨v, h1, h2⟩ := h; ⟨v, h1, hr _ _ h2⟩
  | [], .panicking chain, w, h, hr => hr _ _ h
  | [], .run, w, h, hr => h.elim
  | d :: ds, u, w, h, hr => by
    obtain ⟨h1, fv, cap, f, args, h2, h3, h4⟩ := h
    refine ⟨h1, fv, cap, f, args, h2, h3, h4.mono ?_⟩
    intro e u' w' h5
    cases e with
    | returned v => exact leaves_mono h5 hr
    | panicked ch => exact leaves_mono h5 hr
    | outgrown => exact hr _ _ h5
theorem codeS_other {n : Nat} (hcode : CodeOk P se G n) {f : FuncId} {c : Code} {F : Fr} {m : AMode} {A : AS} {e : AE} {F' : Fr} {m' : AMode} {A' : AS}
    (h : (match codeA P se G n f c F A with | some (e, F, A) => some (e, F, m, A) | none => none) = some (e, F', m', A'))
    (c₀ : Frame) (cs : List Frame) (E : En) (a : Act) (w : World) (Q : Exit → Act → List Frame → World → Prop) (hF : RF E A.nxt F a) (hm : m.bd A.nxt) (hR : Rep P E A.heap.get A.nxt w) (hQ : QOkS P c₀ cs E A w e F' m' A' Q) :
    c.wpS P Q a ({ c₀ with mode := denM E m } :: cs) w := by
  split at h
  · rename_i e1 F1 A1 h1
    simp only [Option.some.injEq, Prod.mk.injEq] at h
    obtain ⟨rfl, rfl, rfl, rfl⟩ := h
    refine wpS_of_wp (hcode.wp f c F A _ _ _ h1 E a w _ hF hR ?_)
    intro E' a' w' s1 s2 s3
    have := hQ E' a' w' s1 s2 s3 (AMode.bd_mono s1.le hm)
    rw [denM_ext s1.ext hm] at this
    cases e1 <;> exact this
  · cases h
theorem codeS_succ (hnm : NmOk P) (hse : SeOk P se) {n : Nat} (hcode : CodeOk P se G n) (hcall : CallOk P (callA P se G n)) (hS : CodeSOk P se G n) : CodeSOk P se G (n + 1) := by
  intro f c F m A e F' m' A' h c₀ cs E a w Q hF hm hR hQ
  cases c with
  | region id ops draw =>
    cases draw
    · simp only [codeS] at h
      refine wpS_region ?_
      have := opsS_ok hnm hse hcall ops c₀ cs ops.toList 0 F m A E a w e F' m' A' Q rfl h hF hR hm hQ
      rw [Array.length_toList] at this
      rw [List.range_eq_range']
      exact this
    · simp only [codeS] at h
      exact codeS_other hcode h c₀ cs E a w Q hF hm hR hQ
  | seq x y =>
    simp only [codeS] at h
    refine wpS_seq ?_
    split at h
    · rename_i F1 m1 A1 h1
      refine hS f x F m A _ F1 m1 A1 h1 c₀ cs E a w _ hF hm hR ?_
      intro E' a' w' s1 s2 s3 s4
      exact hS f y F1 m1 A1 e F' m' A' h c₀ cs E' a' w' Q s2 s4 s3 (hQ.trans s1)
    · rename_i e1 F1 m1 A1 hne h1
      simp only [Option.some.injEq, Prod.mk.injEq] at h
      obtain ⟨rfl, rfl, rfl, rfl⟩ := h
      refine hS f x F m A _ _ _ _ h1 c₀ cs E a w _ hF hm hR ?_
      intro E' a' w' s1 s2 s3 s4
      have := hQ E' a' w' s1 s2 s3 s4
      cases e1 with
      | normal => exact (hne rfl).elim
      | exit j => exact this
      | ret => exact this
      | panic v => exact this
    · cases h
  | cond c x y =>
    simp only [codeS] at h
    split at h
    · rename_i hc
      exact wpS_cond (t := true) (hF.ev _ _ hc).1 (hS f x F m A e F' m' A' h c₀ cs E a w Q hF hm hR hQ)
    · rename_i hc
      exact wpS_cond (t := false) (hF.ev _ _ hc).1 (hS f y F m A e F' m' A' h c₀ cs E a w Q hF hm hR hQ)
    · cases h
  | skip => simp only [codeS] at h; exact codeS_other hcode h c₀ cs E a w Q hF hm hR hQ
  | label => simp only [codeS] at h; exact codeS_other hcode h c₀ cs E a w Q hF hm hR hQ
  | exit => simp only [codeS] at h; exact codeS_other hcode h c₀ cs E a w Q hF hm hR hQ
  | ret => simp only [codeS] at h; exact codeS_other hcode h c₀ cs E a w Q hF hm hR hQ
  | block => simp only [codeS] at h; exact codeS_other hcode h c₀ cs E a w Q hF hm hR hQ
  | loop => simp only [codeS] at h; exact codeS_other hcode h c₀ cs E a w Q hF hm hR hQ
  | rangeFunc => simp only [codeS] at h; exact codeS_other hcode h c₀ cs E a w Q hF hm hR hQ
  | scope => simp only [codeS] at h; exact codeS_other hcode h c₀ cs E a w Q hF hm hR hQ
  | goto => simp only [codeS] at h; exact codeS_other hcode h c₀ cs E a w Q hF hm hR hQ
  | refuse => simp only [codeS] at h; exact codeS_other hcode h c₀ cs E a w Q hF hm hR hQ
theorem callS_succ {n : Nat} (hS : CodeSOk P se G n) : CallSOk P se G (n + 1) := by
  intro f args m A m' A' h E w hb hm hR
  simp only [callS] at h
  split at h
  · rename_i fn hf
    split at h
    · rename_i c hc
      refine ⟨⟨fn, c, hf, hc⟩, ?_⟩
      split at h
      · rename_i hl
        have hl := Nat.le_of_ble_eq_true hl
        split at h
        · rename_i hk
          have hk := Nat.le_of_ble_eq_true hk
          split at h
          · rename_i e F1 m1 A1 hcode
            refine callsD_of_wpS hf hc fun c₀ cs hu => ?_
            have hc0 : ({ c₀ with mode := denM E m } : Frame) = c₀ := by rw [← hu]
            rw [← hc0]
            have hfr := enter_frame (E := E) hl hk hb
            refine hS f c _ m A e F1 m1 A1 hcode c₀ cs E _ w _ hfr hm hR ?_
            intro E' a' w' s1 s2 s3 s4
            rw [hc0]
            split at h
            · rename_i hds
              have hd : a'.defers = [] := by rw [s2.ds, hds]; rfl
              have fin : ∀ (hfin : (match finishA P fn F1 A1 with | some _ => some (m1, A1) | none => none) = some (m', A')), a'.defers = [] ∧ ∃ u', ({ c₀ with mode := denM E' m1 } :: cs : List Frame) = { c₀ with mode := u' } :: cs ∧ ∃ v, (results fn a'.tmps).run P w' = .ok v w' ∧
                  ∃ E', Stp E A.heap.get A.nxt w E' A'.heap.get A'.nxt w' ∧ Rep P E' A'.heap.get A'.nxt w' ∧ m'.bd A'.nxt ∧ (∃ v', Ending.returned v = .returned v') ∧ u' = denM E' m' := by
                intro hfin
                split at hfin
                · rename_i v hv
                  simp only [Option.some.injEq, Prod.mk.injEq] at hfin
                  obtain ⟨rfl, rfl⟩ := hfin
                  have := finish_ok s2 s3 hv
                  exact ⟨hd, _, rfl, _, this.1, E', s1, s3, s4, ⟨_, rfl⟩, rfl⟩
                · cases hfin
              cases e with
              | panic v => cases h
              | exit j => cases h
              | normal => exact fin h
              | ret => exact fin h
            · cases h
          · cases h
        · cases h
      · cases h
    · cases h
  · cases h
theorem leave_succ (hnm : NmOk P) {n : Nat} (hL : LeaveOk P se G n) (hC : CallSOk P se G n) : LeaveOk P se G (n + 1) := by
  intro fn F ds m A r A' h E a w hF hdb hm hR
  cases ds with
  | nil =>
    cases m with
    | returning =>
      simp only [leaveA] at h
      split at h
      · rename_i v hv
        simp only [Option.some.injEq, Prod.mk.injEq] at h
        obtain ⟨rfl, rfl⟩ := h
        have := finish_ok hF hR hv
        exact ⟨_, this.1, E, Stp.refl _ _ _ _, hR, rfl, this.2⟩
      · cases h
    | panicking v b =>
      cases b with
      | false =>
        simp only [leaveA, Option.some.injEq, Prod.mk.injEq] at h
        obtain ⟨rfl, rfl⟩ := h
        exact ⟨E, Stp.refl _ _ _ _, hR, rfl, hm⟩
      | true => simp [leaveA] at h
  | cons d ds =>
    simp only [leaveA] at h
    split at h
    · rename_i m1 A1 hc
      have hd := hdb d (by simp)
      have hab : ∀ v ∈ d.args ++ d.cap, AV.bd A.nxt v := fun v hv => (List.mem_append.1 hv).elim (hd.1 v) (hd.2 v)
      obtain ⟨⟨gn, c, hf, hb⟩, hcall⟩ := hC d.fn _ m A m1 A1 hc E w hab hm hR
      have hinv : (invoke (denD E d).target (denD E d).args).run P w = .ok (.enter d.fn ⟨(d.args ++ d.cap).map (den E)⟩) w := by
        simp only [denD, invoke]
        rw [callFunc_enter hf (hnm d.fn gn hf (by rw [hb]; rfl)) hb]
        simp
      simp only [List.map_cons, Leaves]
      refine ⟨by cases m <;> simp [denM], .func d.fn, ⟨d.cap.map (den E)⟩, d.fn, _, rfl, hinv, hcall.mono ?_⟩
      rintro e u' w' ⟨E', s1, s2, s3, ⟨v, rfl⟩, rfl⟩
      simp only
      rw [settle_den]
      have := hL fn F ds (settleA m1) A1 r A' h E' a w' (hF.ext s1.ext s1.le) (fun d hd => ADef.bd_mono s1.le (hdb d (by simp [hd]))) (settle_bd s3) s2
      have e1 : ds.map (denD E') = ds.map (denD E) := List.map_congr_left fun d hd => denD_ext s1.ext (hdb d (by simp [hd]))
      rw [e1] at this
      exact leaves_mono this fun e w2 hp => CallPost.trans s1 hp
    · cases h
theorem call_succ {n : Nat} (hcode : CodeOk P se G n) (hL : LeaveOk P se G n) : CallOk P (callA P se G (n + 1)) := by
  intro f args A r A' h E w hR hb
  show Calls P f ⟨args.map (den E)⟩ w (CallPost P E A w r A')
  simp only [callA] at h
  split at h
  · rename_i fn hf
    split at h
    · rename_i c hc
      split at h
      · rename_i hl
        have hl := Nat.le_of_ble_eq_true hl
        split at h
        · rename_i hk
          have hk := Nat.le_of_ble_eq_true hk
          split at h
          · rename_i e F1 A1 hcd
            have hfr := enter_frame (E := E) hl hk hb
            refine calls_of_wp_defers hf hc (hcode.wp f c _ A e F1 A1 hcd E _ w _ hfr hR ?_)
            intro E' a' w' s1 s2 s3
            have lv : ∀ (m : AMode) (hm : m.bd A1.nxt) (n' : Nat) (hL' : LeaveOk P se G n') (h : leaveA P se G n' fn F1 F1.ds m A1 = some (r, A')), Leaves P fn a'.tmps (CallPost P E A w r A') a'.defers (denM E' m) w' := by
              intro m hm n' hL' h
              have := hL' fn F1 F1.ds m A1 r A' h E' a' w' s2 s2.dbd hm s3
              rw [← s2.ds] at this
              exact leaves_mono this fun e w2 hp => CallPost.trans s1 hp
            have fin : (match finishA P fn F1 A1 with | some v => some (AEnd.ret v, A1) | none => none) = some (r, A') → F1.ds = [] → Leaves P fn a'.tmps (CallPost P E A w r A') a'.defers .returning w' := by
              intro h hds
              split at h
              · rename_i v hv
                simp only [Option.some.injEq, Prod.mk.injEq] at h
                obtain ⟨rfl, rfl⟩ := h
                have := finish_ok s2 s3 hv
                rw [s2.ds, hds]
                exact ⟨_, this.1, E', s1, s3, rfl, this.2⟩
              · cases h
            split at h
            · rename_i hds
              cases e with
              | panic v =>
                simp only [Option.some.injEq, Prod.mk.injEq] at h
                obtain ⟨rfl, rfl⟩ := h
                intro hvb
                show Leaves P fn a'.tmps _ a'.defers _ w'
                rw [s2.ds, hds]
                exact ⟨E', s1, s3, rfl, hvb⟩
              | exit j => cases h
              | normal => exact fin h hds
              | ret => exact fin h hds
            · rename_i d ds hds
              rw [← hds] at h
              cases e with
              | panic v =>
                intro hvb
                exact lv (.panicking v false) hvb n hL h
              | exit j => cases h
              | normal => exact lv .returning trivial n hL h
              | ret => exact lv .returning trivial n hL h
          · cases h
        · cases h
      · cases h
    · cases h
  · cases h
theorem all_ok (hm : P.follows .mixedOrders = true) (hnm : NmOk P) (hse : SeOk P se) : ∀ n, CodeOk P se G n ∧ CallOk P (callA P se G n) ∧ LeaveOk P se G n ∧ CodeSOk P se G n ∧ CallSOk P se G n
  | 0 => ⟨⟨fun f c F A e F' A' h => by simp [codeA] at h, fun f c F A e F' A' h => by simp [codeA] at h⟩, fun f args A r A' h => by simp [callA] at h, fun fn F ds m A r A' h => by simp [leaveA] at h,
      fun f c F m A e F' m' A' h => by simp [codeS] at h, fun f args m A m' A' h => by simp [callS] at h⟩
  | n + 1 =>
    have ih := all_ok hm hnm hse n
    ⟨code_succ hm hnm hse ih.1 ih.2.1, call_succ ih.1 ih.2.2.1, leave_succ hnm ih.2.2.1 ih.2.2.2.2, codeS_succ hnm hse ih.1 ih.2.1 ih.2.2.2.1, callS_succ ih.2.2.2.1⟩
end
end Go.Proofs.YtgooihjcaoajnaaGreat.Ev
