/- Turns in order (layer 33): on lists alone. -/
import Derived.Test.YtmomafhpbbmiaaaU4
import Derived.Test.YtmomafhpbbmiaaaV
set_option linter.unusedVariables false
namespace Go.Proofs.Ytmomafhpbbmiaaa
open Go.ChangeShapes Go.WideShapes Go.ChangeAt Go.RowKit
/-- 100, 99, .. -/
def dn (k : Nat) : List Int := (List.range k).map (fun (j : Nat) => 100 - (j : Int))
theorem dn_len (k : Nat) : (dn k).length = k := by simp [dn]
theorem dn_succ (k : Nat) : dn (k + 1) = dn k ++ [100 - (k : Int)] := by simp [dn, List.range_succ]
theorem dn_get (k j : Nat) (h : j < k) : (dn k).getD j 0 = 100 - (j : Int) := by
  rw [List.getD_eq_getElem?_getD]
  simp [dn, h]
theorem dn_miss (k : Nat) : idx (dn k) (100 - (k : Int)) < 0 := by
  rw [idx_miss (dn k) _ (fun j hj => by rw [dn_len] at hj; rw [dn_get k j hj]; omega)]
  omega
theorem dn_nodup (k : Nat) : (dn k).Nodup := by
  unfold dn
  refine List.Pairwise.map _ (R := fun a b => a ≠ b) (fun a b h => by omega) ?_
  exact List.nodup_range
theorem own_new_base (w : World) (base : Nat) (hb : base ≤ w.heap.size) : (w.alloc (.cells #[] 3)).ownsRow base 3 1 (.slice (some ⟨w.heap.size, 0, none⟩) 0 0) 0 [] :=
  ⟨by simp, .inr ⟨w.heap.size, 0, #[], rfl, hb, heap_alloc_new w _, Nat.le_refl _, by simp [maxLen], by simp, by simp⟩⟩
theorem nodup_ne (L : List Int) (h : L.Nodup) (i j : Nat) (hi : i < L.length) (hj : j < L.length) (hij : i ≠ j) : L.getD i 0 ≠ L.getD j 0 := by
  intro e
  rw [List.getD_eq_getElem?_getD, List.getD_eq_getElem?_getD, List.getElem?_eq_getElem hi, List.getElem?_eq_getElem hj] at e
  have e' : L[i] = L[j] := e
  rcases Nat.lt_or_gt_of_ne hij with k | k
  · exact List.pairwise_iff_getElem.1 h i j hi hj k e'
  · exact List.pairwise_iff_getElem.1 h j i hj hi k e'.symm
/-- where the last one stands in the rest of a list in which nothing stands twice -/
theorem idx_last (L : List Int) (h : L.Nodup) (k : Nat) (hk : k < L.length) : idx (L.drop k) (L.getD (L.length - 1) 0) = ((L.length - 1 - k : Nat) : Int) := by
  refine idx_hit _ _ _ (by rw [List.length_drop]; omega) ?_ (fun j hj => ?_)
  · rw [List.getD_eq_getElem?_getD, List.getD_eq_getElem?_getD, List.getElem?_drop]
    rw [show k + (L.length - 1 - k) = L.length - 1 by omega]
  · have e : (L.drop k).getD j 0 = L.getD (k + j) 0 := by rw [List.getD_eq_getElem?_getD, List.getD_eq_getElem?_getD, List.getElem?_drop]
    rw [e]
    exact nodup_ne L h _ _ (by omega) (by omega) (by omega)
theorem drop_at (L : List Int) (k : Nat) (hk : k < L.length) : L.drop k = L.getD k 0 :: L.drop (k + 1) := drop_cons L k hk
theorem erase_nodup (L : List Int) (h : L.Nodup) (k : Nat) : (L.eraseIdx k).Nodup := List.Nodup.sublist (List.eraseIdx_sublist L k) h
theorem Lq.cell {w : World} {A : Option Addr} {n c : Nat} {K : List Int} {P : Nat → Prop} (h : Lq w A n c K P) (k : Nat) (hk : k < n) : ∃ b off, A = some ⟨b, off, none⟩ ∧ b < w.heap.size ∧ w.cell? ⟨b, off + k, none⟩ = some (.int .i64 (K.getD k 0)) := reads_cell h.2.2.2.1 hk
end Go.Proofs.Ytmomafhpbbmiaaa
