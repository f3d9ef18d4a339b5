/- A law that the evaluator finds true is true. -/
import Derived.Test.YtgooihjcaoajnaaGreatEn
import Derived.Below
set_option linter.unusedVariables false
set_option linter.unusedSimpArgs false
namespace Go.Proofs.YtgooihjcaoajnaaGreat.Ev
open Go Go.RowKit

/-- a table of plans, by function and region -/
def lk2 : List (Nat × List PStep) → Nat → List PStep
  | [], _ => []
  | (q, p) :: m, r => match Nat.beq q r with
    | true => p
    | false => lk2 m r
def lk (l : List (Nat × List (Nat × List PStep))) (f r : Nat) : List PStep := match l with
  | [] => []
  | (g, m) :: l => match Nat.beq g f with
    | true => lk2 m r
    | false => lk l f r
def nmB (P : Program) : Bool := P.funcs.toList.all fun fn => fn.body.isNone || !(fn.name == "runtime.NumGoroutine")
def seB (P : Program) (se : List TypeId) : Bool := se.all fun t => !(P.stoodInHeld t) && (!(P.eqGuardType P.depth t) && (P.fieldsOf t).toList.all fun f => !(f.name == "_"))
theorem nmB_ok {P : Program} (h : nmB P = true) : NmOk P := by
  intro f fn hf hb
  have hm : fn ∈ P.funcs.toList := by
    rw [← Array.getElem?_toList] at hf
    exact List.mem_of_getElem? hf
  have := List.all_eq_true.1 h fn hm
  cases hbody : fn.body with
  | none => rw [hbody] at hb; cases hb
  | some c => rw [hbody] at this; simpa using this
theorem memB_mem : ∀ {l : List Nat} {t : Nat}, memB t l = true → t ∈ l
  | a :: l, t, h => by
    simp only [memB] at h
    split at h
    · rename_i e
      have := Nat.eq_of_beq_eq_true e
      simp [this]
    · exact List.mem_cons_of_mem _ (memB_mem h)
theorem seB_ok {P : Program} {se : List TypeId} (h : seB P se = true) : SeOk P se := by
  intro t ht
  have := List.all_eq_true.1 h t (memB_mem ht)
  simp only [Bool.and_eq_true, Bool.not_eq_true'] at this
  exact this
theorem okB_some {r : Option (AEnd × AS)} (h : okB r = true) : ∃ A', r = some (.ret (.b true), A') := by
  unfold okB at h
  split at h
  · rename_i A'; exact ⟨A', rfl⟩
  · cases h
def noE (σ : Nat → Int) (hσ : DomOk σ) : En := ⟨fun _ => 0, fun _ => 0, σ, hσ.1, hσ.2⟩
theorem run_law {P : Program} {se : List TypeId} {G : FuncId → Nat → List PStep} {n : Nat} {f : FuncId} {args : List AV} (hm : P.follows .mixedOrders = true) (hnm : nmB P = true) (hse : seB P se = true)
    (h : okB (callA P se G n f args ⟨0, .e⟩) = true) (hb : ∀ v ∈ args, AV.bd 0 v) (σ : Nat → Int) (hσ : DomOk σ) (w : World) :
    Calls P f ⟨args.map (den (noE σ hσ))⟩ w fun e w' => e = .returned (.bool true) ∧ Below w.heap.size w w' := by
  obtain ⟨A', hA⟩ := okB_some h
  have h0 : Rep P (noE σ hσ) (T.get (.e : T AO)) 0 w := ⟨fun g o h => by simp [T.get] at h, fun g o h => by simp [T.get] at h, fun g h o o' h1 => by simp [T.get] at h1⟩
  refine ((all_ok (G := G) hm (nmB_ok hnm) (seB_ok hse) n).2.1 f args ⟨0, .e⟩ _ A' hA (noE σ hσ) w h0 hb).mono ?_
  rintro e w' ⟨E', st, -, rfl, -⟩
  exact ⟨rfl, st.os, st.tape, st.output, st.size, fun k hk => st.keep k hk (fun g o h => by simp [T.get] at h)⟩
end Go.Proofs.YtgooihjcaoajnaaGreat.Ev
