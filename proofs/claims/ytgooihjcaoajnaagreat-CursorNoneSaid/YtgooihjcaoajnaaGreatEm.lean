/- Code and calls: what the evaluator says comes true. -/
import Derived.Test.YtgooihjcaoajnaaGreatEl
set_option linter.unusedVariables false
set_option linter.unusedSimpArgs false
namespace Go.Proofs.YtgooihjcaoajnaaGreat.Ev
open Go Go.RowKit

section
variable {P : Program} {se : List TypeId} {G : FuncId → Nat → List PStep}
/-! ### Deferred calls -/
def denM (E : En) : AMode → FrameMode
  | .returning => .returning
  | .panicking v r => .panicking [{ v := den E v, recovered := r }]
def AMode.bd (n : Nat) : AMode → Prop
  | .returning => True
  | .panicking v _ => v.bd n
theorem denM_ext {n : Nat} {E E' : En} (h : Ext n E E') {m : AMode} (hm : m.bd n) : denM E' m = denM E m := by
  cases m with
  | returning => rfl
  | panicking v r => simp only [denM]; rw [den_ext h hm]
theorem AMode.bd_mono {n k : Nat} (h : n ≤ k) {m : AMode} (hm : m.bd n) : m.bd k := by
  cases m with
  | returning => trivial
  | panicking v r => exact AV.bd_mono h hm
theorem settle_den (E : En) (m : AMode) : settle (denM E m) = denM E (settleA m) := by
  cases m with
  | returning => rfl
  | panicking v r => cases r <;> rfl
theorem settle_bd {n : Nat} {m : AMode} (h : m.bd n) : (settleA m).bd n := by
  cases m with
  | returning => trivial
  | panicking v r => cases r <;> first | exact h | trivial
/-- what is to be shown of a state that is come to in a deferred call -/
def QOkS (P : Program) (c₀ : Frame) (cs : List Frame) (E : En) (A : AS) (w : World) (e : AE) (F' : Fr) (m' : AMode) (A' : AS) (Q : Exit → Act → List Frame → World → Prop) : Prop :=
  ∀ E' a' w', Stp E A.heap.get A.nxt w E' A'.heap.get A'.nxt w' → RF E' A'.nxt F' a' → Rep P E' A'.heap.get A'.nxt w' → m'.bd A'.nxt →
    match e with
    | .normal => Q .normal a' ({ c₀ with mode := denM E' m' } :: cs) w'
    | .exit id => Q (.exit id) a' ({ c₀ with mode := denM E' m' } :: cs) w'
    | .ret => Q .ret a' ({ c₀ with mode := denM E' m' } :: cs) w'
    | .panic v => v.bd A'.nxt → Q (.panic [{ v := den E' v, recovered := false }]) a' ({ c₀ with mode := denM E' m' } :: cs) w'
theorem QOkS.trans {c₀ : Frame} {cs : List Frame} {E E1 : En} {A A1 A' : AS} {w w1 : World} {e : AE} {F' : Fr} {m' : AMode} {Q : Exit → Act → List Frame → World → Prop}
    (h : QOkS P c₀ cs E A w e F' m' A' Q) (hs : Stp E A.heap.get A.nxt w E1 A1.heap.get A1.nxt w1) : QOkS P c₀ cs E1 A1 w1 e F' m' A' Q :=
  fun E' a' w' h1 h2 h3 h4 => h E' a' w' (hs.trans h1) h2 h3 h4
theorem opsS_ok (hnm : NmOk P) (hse : SeOk P se) {call : FuncId → List AV → AS → Option (AEnd × AS)} (hcall : CallOk P call) (ops : Array Oper) (c₀ : Frame) (cs : List Frame) :
    ∀ (rest : List Oper) (i : Nat) (F : Fr) (m : AMode) (A : AS) (E : En) (a : Act) (w : World) (e : AE) (F' : Fr) (m' : AMode) (A' : AS) (Q : Exit → Act → List Frame → World → Prop), ops.toList.drop i = rest →
      opsS P se call ops rest F m A = some (e, F', m', A') → RF E A.nxt F a → Rep P E A.heap.get A.nxt w → m.bd A.nxt → QOkS P c₀ cs E A w e F' m' A' Q →
      wpOpsS P ops Q (List.range' i rest.length) a ({ c₀ with mode := denM E m } :: cs) w
  | [], i, F, m, A, E, a, w, e, F', m', A', Q, hd, h, hF, hR, hm, hQ => by
    simp only [opsS, Option.some.injEq, Prod.mk.injEq] at h
    obtain ⟨rfl, rfl, rfl, rfl⟩ := h
    exact hQ E a w (Stp.refl _ _ _ _) hF hR hm
  | o :: rest, i, F, m, A, E, a, w, e, F', m', A', Q, hd, h, hF, hR, hm, hQ => by
    have hi : ops[i]? = some o := by
      have : (ops.toList.drop i)[0]? = some o := by rw [hd]; rfl
      rw [List.getElem?_drop] at this
      simpa using this
    have hd' : ops.toList.drop (i + 1) = rest := by
      have : (ops.toList.drop i).drop 1 = rest := by rw [hd]; rfl
      rwa [List.drop_drop] at this
    rw [List.length_cons, List.range'_succ]
    simp only [wpOpsS, hi]
    rw [wanted_eq hF]
    simp only [opsS] at h
    split at h
    · rename_i hw
      rw [hw, if_pos rfl]
      split at h
      · rename_i v ef hop
        split at h
        · rename_i A1 hA
          split at h
          · rename_i F1 hp
            obtain ⟨E', w', hres, hvb, hst, hrep, -⟩ := opA_ok hnm hse hR hF.ev hop
            obtain ⟨hA1, hA2⟩ := applyE_ok hA (fun _ _ _ => trivial)
            rw [← hA1, ← hA2] at hst hrep
            rw [← hA2] at hvb
            have hF' := (hF.ext hst.ext hst.le).put hp hvb
            have hnext := opsS_ok hnm hse hcall ops c₀ cs rest (i + 1) F1 m A1 E' _ w' e F' m' A' Q hd' h hF' hrep (AMode.bd_mono hst.le hm) (hQ.trans hst)
            rw [denM_ext hst.ext hm] at hnext
            rcases hres with hres | ⟨hres, rfl⟩
            · rw [hres]; exact hnext
            · rw [hres]; exact hnext
          · cases h
        · cases h
      · rename_i f args hop
        split at h
        · rename_i v A1 hc
          split at h
          · rename_i F1 hp
            obtain ⟨hres, hb⟩ := opA_ok hnm hse hR hF.ev hop
            rw [hres]
            refine (hcall f args A _ A1 hc E w hR hb).mono ?_
            rintro e2 w' ⟨E', hst, hrep, rfl, hvb⟩
            have hF' := (hF.ext hst.ext hst.le).put hp hvb
            have hnext := opsS_ok hnm hse hcall ops c₀ cs rest (i + 1) F1 m A1 E' _ w' e F' m' A' Q hd' h hF' hrep (AMode.bd_mono hst.le hm) (hQ.trans hst)
            rw [denM_ext hst.ext hm] at hnext
            exact hnext
          · cases h
        · cases h
      · rename_i hop
        have hres : (execOp a.eval o).run P w = .ok .recover w := opA_ok hnm hse hR hF.ev hop
        rw [hres]
        split at h
        · rename_i v
          split at h
          · rename_i F1 hp
            simp only [denM, recoverD]
            exact opsS_ok hnm hse hcall ops c₀ cs rest (i + 1) F1 (.panicking v true) A E _ w e F' m' A' Q hd' h (hF.put hp hm) hR hm hQ
          · cases h
        · rename_i hne
          split at h
          · rename_i F1 hp
            have hnext := opsS_ok hnm hse hcall ops c₀ cs rest (i + 1) F1 m A E _ w e F' m' A' Q hd' h (hF.put hp trivial) hR hm hQ
            cases m with
            | returning => exact hnext
            | panicking v r =>
              cases r with
              | false => exact absurd rfl (hne v)
              | true => exact hnext
          · cases h
      · cases h
    · rename_i hw
      rw [hw, if_neg (by simp)]
      split at h
      · rename_i F1 hp
        exact opsS_ok hnm hse hcall ops c₀ cs rest (i + 1) F1 m A E _ w e F' m' A' Q hd' h (hF.put hp trivial) hR hm hQ
      · cases h
/-! ### Code -/
structure CodeOk (P : Program) (se : List TypeId) (G : FuncId → Nat → List PStep) (n : Nat) : Prop where
  wp : ∀ (f : FuncId) (c : Code) (F : Fr) (A : AS) (e : AE) (F' : Fr) (A' : AS), codeA P se G n f c F A = some (e, F', A') →
    ∀ (E : En) (a : Act) (w : World) (Q : Exit → Act → World → Prop), RF E A.nxt F a → Rep P E A.heap.get A.nxt w → QOk P E A w e F' A' Q → c.wp P Q a w
  loop : ∀ (f : FuncId) (c : Code) (F : Fr) (A : AS) (e : AE) (F' : Fr) (A' : AS), codeA P se G n f (.loop c) F A = some (e, F', A') →
    ∃ m, ∀ (E : En) (a : Act) (w : World) (Q : Exit → Act → World → Prop), RF E A.nxt F a → Rep P E A.heap.get A.nxt w → QOk P E A w e F' A' Q → Code.rounds P c Q m a w
theorem then_pass {E : En} {A A1 : AS} {w : World} {e : AE} {F1 : Fr} {Q : Exit → Act → World → Prop} {K : Act → World → Prop} (hne : e ≠ .normal) (h : QOk P E A w e F1 A1 Q) : QOk P E A w e F1 A1 (Exit.then K Q) := by
  intro E' a' w' h1 h2 h3
  have := h E' a' w' h1 h2 h3
  cases e with
  | normal => exact (hne rfl).elim
  | exit id => exact this
  | ret => exact this
  | panic v => exact this
theorem code_succ (hm : P.follows .mixedOrders = true) (hnm : NmOk P) (hse : SeOk P se) {n : Nat} (hcode : CodeOk P se G n) (hcall : CallOk P (callA P se G n)) : CodeOk P se G (n + 1) := by
  have hloop : ∀ (f : FuncId) (c : Code) (F : Fr) (A : AS) (e : AE) (F' : Fr) (A' : AS), codeA P se G (n + 1) f (.loop c) F A = some (e, F', A') →
      ∃ m, ∀ (E : En) (a : Act) (w : World) (Q : Exit → Act → World → Prop), RF E A.nxt F a → Rep P E A.heap.get A.nxt w → QOk P E A w e F' A' Q → Code.rounds P c Q m a w := by
    intro f c F A e F' A' h
    simp only [codeA] at h
    split at h
    · rename_i F1 A1 h1
      obtain ⟨m, hm⟩ := hcode.loop f c F1 A1 e F' A' h
      refine ⟨m + 1, fun E a w Q hF hR hQ => ?_⟩
      refine hcode.wp f c F A _ F1 A1 h1 E a w _ hF hR ?_
      intro E' a' w' s1 s2 s3
      exact hm E' a' w' Q s2 s3 (hQ.trans s1)
    · rename_i e1 F1 A1 hne h1
      simp only [Option.some.injEq, Prod.mk.injEq] at h
      obtain ⟨rfl, rfl, rfl⟩ := h
      exact ⟨1, fun E a w Q hF hR hQ => hcode.wp f c F A _ _ _ h1 E a w _ hF hR (then_pass (fun he => by subst he; exact hne rfl) hQ)⟩
    · cases h
  refine ⟨?_, hloop⟩
  intro f c F A e F' A' h E a w Q hF hR hQ
  cases c with
  | skip =>
    simp only [codeA, Option.some.injEq, Prod.mk.injEq] at h
    obtain ⟨rfl, rfl, rfl⟩ := h
    exact wp_skip (hQ E a w (Stp.refl _ _ _ _) hF hR)
  | label l =>
    simp only [codeA, Option.some.injEq, Prod.mk.injEq] at h
    obtain ⟨rfl, rfl, rfl⟩ := h
    exact wp_label (hQ E a w (Stp.refl _ _ _ _) hF hR)
  | exit id =>
    simp only [codeA, Option.some.injEq, Prod.mk.injEq] at h
    obtain ⟨rfl, rfl, rfl⟩ := h
    exact wp_exit (hQ E a w (Stp.refl _ _ _ _) hF hR)
  | ret =>
    simp only [codeA, Option.some.injEq, Prod.mk.injEq] at h
    obtain ⟨rfl, rfl, rfl⟩ := h
    exact wp_ret (hQ E a w (Stp.refl _ _ _ _) hF hR)
  | region id ops draw =>
    cases draw
    · simp only [codeA] at h
      refine wp_region ?_
      have := opsA_ok hnm hse hcall ops ops.toList 0 F A E a w e F' A' Q rfl h hF hR hQ
      rw [Array.length_toList] at this
      rw [List.range_eq_range']
      exact this
    · simp only [codeA] at h
      split at h
      · rename_i hpl
        split at h
        · rename_i F1 A1 hd
          simp only [Option.some.injEq, Prod.mk.injEq] at h
          obtain ⟨rfl, rfl, rfl⟩ := h
          unfold planned at hpl
          split at hpl
          · rename_i hns
            split at hpl
            · rename_i hlen
              have hlen := Nat.eq_of_beq_eq_true hlen
              refine wp_region_noPanic (wp_region_any hm (wpAny_of_D (S := SH P ([].map (conc E))) (D := relOf (G f id)) _ _ _ _ ?_))
              have hsm : SameMem w { w with drawn := w.drawn + 1 } := ⟨rfl, rfl, rfl, rfl⟩
              have := drawA_ok hnm hse hcall ops hns (G f id) (Array.replicate ops.size false) [] [] F A E a { w with drawn := w.drawn + 1 } F1 A1 Q hpl hd hF (hR.same rfl) (by simp) (by intro x hx; cases hx) (hQ.trans (Stp.same hsm))
              rw [hlen] at this
              exact this
            · cases hpl
          · cases hpl
        · cases h
      · cases h
  | seq x y =>
    simp only [codeA] at h
    refine wp_seq ?_
    split at h
    · rename_i F1 A1 h1
      refine hcode.wp f x F A _ F1 A1 h1 E a w _ hF hR ?_
      intro E' a' w' s1 s2 s3
      exact hcode.wp f y F1 A1 e F' A' h E' a' w' Q s2 s3 (hQ.trans s1)
    · rename_i e1 F1 A1 hne h1
      simp only [Option.some.injEq, Prod.mk.injEq] at h
      obtain ⟨rfl, rfl, rfl⟩ := h
      exact hcode.wp f x F A _ _ _ h1 E a w _ hF hR (then_pass (fun he => by subst he; exact hne rfl) hQ)
    · cases h
  | cond c x y =>
    simp only [codeA] at h
    split at h
    · rename_i hc
      exact wp_cond_true (hF.ev _ _ hc).1 (hcode.wp f x F A e F' A' h E a w Q hF hR hQ)
    · rename_i hc
      exact wp_cond_false (hF.ev _ _ hc).1 (hcode.wp f y F A e F' A' h E a w Q hF hR hQ)
    · cases h
  | block id c =>
    simp only [codeA] at h
    refine wp_block ?_
    split at h
    · rename_i j F1 A1 h1
      split at h
      · rename_i hj
        have hj := Nat.eq_of_beq_eq_true hj
        subst hj
        simp only [Option.some.injEq, Prod.mk.injEq] at h
        obtain ⟨rfl, rfl, rfl⟩ := h
        refine hcode.wp f c F A _ _ _ h1 E a w _ hF hR ?_
        intro E' a' w' s1 s2 s3
        have := hQ E' a' w' s1 s2 s3
        simpa [Exit.inBlock] using this
      · rename_i hj
        have hj := Nat.ne_of_beq_eq_false hj
        simp only [Option.some.injEq, Prod.mk.injEq] at h
        obtain ⟨rfl, rfl, rfl⟩ := h
        refine hcode.wp f c F A _ _ _ h1 E a w _ hF hR ?_
        intro E' a' w' s1 s2 s3
        have := hQ E' a' w' s1 s2 s3
        simpa [Exit.inBlock, hj] using this
    · rename_i e1 F1 A1 hne h1
      simp only [Option.some.injEq, Prod.mk.injEq] at h
      obtain ⟨rfl, rfl, rfl⟩ := h
      refine hcode.wp f c F A _ _ _ h1 E a w _ hF hR ?_
      intro E' a' w' s1 s2 s3
      have := hQ E' a' w' s1 s2 s3
      cases e1 with
      | normal => exact this
      | exit j => exact (hne j rfl).elim
      | ret => exact this
      | panic v => exact this
    · cases h
  | loop c =>
    obtain ⟨m, hm⟩ := hloop f c F A e F' A' h
    exact wp_loop_rounds m (hm E a w Q hF hR hQ)
  | rangeFunc => simp only [codeA] at h; cases h
  | scope => simp only [codeA] at h; cases h
  | goto => simp only [codeA] at h; cases h
  | refuse => simp only [codeA] at h; cases h
end
end Go.Proofs.YtgooihjcaoajnaaGreat.Ev
