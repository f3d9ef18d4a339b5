/- Who waits comes nearer (layer 11): on lists alone; what the rounds keep. -/
import Derived.Test.YtmomafhpbbmiaaaR11
set_option linter.unusedVariables false
namespace Go.Proofs.Ytmomafhpbbmiaaa
open Go.ChangeShapes Go.WideShapes Go.ChangeAt Go.RowKit
theorem idx_tail (a : Int) (L : List Int) (v : Int) (h : 0 ≤ idx (a :: L) v) (ha : ¬ a = v) : idx L v = idx (a :: L) v - 1 ∧ 0 ≤ idx L v := by
  simp only [idx, if_neg ha] at h ⊢
  by_cases k : idx L v < 0
  · rw [if_pos k] at h; omega
  · rw [if_neg k]; omega
theorem idx_erase : ∀ (L : List Int) (u v : Int), u ≠ v → 0 ≤ idx L u → 0 ≤ idx L v → 0 ≤ idx (L.eraseIdx (idx L u).toNat) v ∧ idx (L.eraseIdx (idx L u).toNat) v ≤ idx L v
  | [], u, v, _, h, _ => by simp [idx] at h
  | a :: L, u, v, hne, hu, hv => by
    by_cases e : a = u
    · subst e
      have h0 : idx (a :: L) a = 0 := by simp [idx]
      rw [h0]
      have := idx_tail a L v hv hne
      simp only [Int.toNat_zero, List.eraseIdx_cons_zero]
      omega
    · obtain ⟨t1, t2⟩ := idx_tail a L u hu e
      have t3 : (idx (a :: L) u).toNat = (idx L u).toNat + 1 := by omega
      rw [t3, List.eraseIdx_cons_succ]
      by_cases f : a = v
      · subst f; simp [idx]
      · obtain ⟨r1, r2⟩ := idx_tail a L v hv f
        have ih := idx_erase L u v hne t2 r2
        have : idx (a :: L.eraseIdx (idx L u).toNat) v = idx (L.eraseIdx (idx L u).toNat) v + 1 := by simp only [idx, if_neg f]; rw [if_neg (by omega)]
        rw [this]
        omega
/-- what the rounds keep: the queue, and how many are ahead of one -/
def RN (w wr : World) (who last : Int) : Prop := ∃ L x, Rg wr w.heap.size w.heap.size 40 x L ∧ idx L who = last ∧ 0 ≤ last ∧ Below w.heap.size w wr
end Go.Proofs.Ytmomafhpbbmiaaa
