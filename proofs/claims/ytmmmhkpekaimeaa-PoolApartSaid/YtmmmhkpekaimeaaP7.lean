/- A pool of ints (layer 6): which numbers lie ready: on lists alone. -/
import Derived.Test.YtmmmhkpekaimeaaP6
set_option linter.unusedVariables false
namespace Go.Proofs.Ytmmmhkpekaimeaa
/-- node j is taken -/
def tk (X : List (Int × Bool)) (j : Nat) : Bool := (X.getD j (0, false)).2
/-- what lies ready to be taken anew: no number twice, and no node that is taken -/
def Ready (X : List (Int × Bool)) (Y : List Int) : Prop := Y.Nodup ∧ ∀ i ∈ Y, ∃ j : Nat, i = (j : Int) + 1 ∧ j < X.length ∧ tk X j = false
theorem tk_set (X : List (Int × Bool)) (k j : Nat) (v : Int) (t : Bool) (hk : k < X.length) : tk (X.set k (v, t)) j = if j = k then t else tk X j := by
  unfold tk
  rw [List.getD_eq_getElem?_getD, List.getD_eq_getElem?_getD, List.getElem?_set]
  by_cases h : k = j
  · subst h; simp [hk]
  · have h' : ¬ j = k := fun e => h e.symm
    simp [h, h']
theorem tk_new (X : List (Int × Bool)) (j : Nat) : tk (X ++ [(0, false)]) j = tk X j := by
  unfold tk
  rw [List.getD_eq_getElem?_getD, List.getD_eq_getElem?_getD]
  by_cases h : j < X.length
  · rw [List.getElem?_append_left h]
  · rw [List.getElem?_append_right (by omega), List.getElem?_eq_none (by omega : X.length ≤ j)]
    cases hj : j - X.length with
    | zero => simp
    | succ q => simp
theorem ready_nil (X : List (Int × Bool)) : Ready X [] := ⟨List.nodup_nil, fun i h => by cases h⟩
theorem ready_give (X : List (Int × Bool)) (Y : List Int) (k : Nat) (h : Ready X Y) (hk : k < X.length) (ht : tk X k = true) : Ready (X.set k (0, false)) (Y ++ [(k : Int) + 1]) := by
  obtain ⟨h1, h2⟩ := h
  refine ⟨?_, fun i hi => ?_⟩
  · rw [List.nodup_append]
    refine ⟨h1, by simp, fun a ha b hb => ?_⟩
    simp only [List.mem_singleton] at hb
    subst hb
    intro hab
    obtain ⟨j, hj, _, hf⟩ := h2 a ha
    have : j = k := by omega
    rw [this, ht] at hf
    cases hf
  · rcases List.mem_append.mp hi with h | h
    · obtain ⟨j, hj, hl, hf⟩ := h2 i h
      refine ⟨j, hj, by simpa using hl, ?_⟩
      rw [tk_set X k j 0 false hk]
      by_cases e : j = k <;> simp [e, hf]
    · simp only [List.mem_singleton] at h
      exact ⟨k, h, by simpa using hk, by rw [tk_set X k k 0 false hk]; simp⟩
theorem ready_take (X : List (Int × Bool)) (Y : List Int) (m : Nat) (v : Int) (h : Ready X Y) (hm : Y.length = m + 1) : ∃ j : Nat, Y.getD m 0 = (j : Int) + 1 ∧ j < X.length ∧ tk X j = false ∧ Ready (X.set j (v, true)) (Y.take m) := by
  obtain ⟨h1, h2⟩ := h
  have hlt : m < Y.length := by omega
  have hg : Y.getD m 0 = Y[m] := by rw [List.getD_eq_getElem?_getD, List.getElem?_eq_getElem hlt]; rfl
  obtain ⟨j, hj, hl, hf⟩ := h2 Y[m] (List.getElem_mem hlt)
  have hY : Y = Y.take m ++ [Y[m]] := by
    have := List.take_append_drop m Y
    rw [List.drop_eq_getElem_cons hlt, List.drop_eq_nil_of_le (by omega)] at this
    exact this.symm
  refine ⟨j, by rw [hg, hj], hl, hf, ?_, fun i hi => ?_⟩
  · exact List.Nodup.sublist (List.take_sublist m Y) h1
  · obtain ⟨q, hq, hql, hqf⟩ := h2 i (List.mem_of_mem_take hi)
    refine ⟨q, hq, by simpa using hql, ?_⟩
    rw [tk_set X j q v true hl]
    have hne : q ≠ j := by
      intro e
      subst e
      have hn := h1
      rw [hY, List.nodup_append] at hn
      exact hn.2.2 i hi Y[m] (by simp) (by rw [hq, hj])
    simp [hne, hqf]
end Go.Proofs.Ytmmmhkpekaimeaa
