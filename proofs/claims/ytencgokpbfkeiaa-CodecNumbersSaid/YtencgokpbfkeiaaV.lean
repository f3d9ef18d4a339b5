/- Slices of integers of any kind (bytes among them), as lists. No program in sight. -/
import Derived.Test.YtencgokpbfkeiaaO
set_option linter.unusedVariables false
namespace Go.Proofs.Ytencgokpbfkeiaa
open Go.ChangeShapes Go.WideShapes Go.ChangeAt Go.RowKit
/-- the values of a list of integers of kind k -/
def kv (k : IntKind) (zs : List Int) : List Value := zs.map (Value.int k)
theorem kv_len (k : IntKind) (zs : List Int) : (kv k zs).length = zs.length := by simp [kv]
theorem kv_append (k : IntKind) (a b : List Int) : kv k a ++ kv k b = kv k (a ++ b) := by simp [kv]
theorem kv_one {k : IntKind} {zs : List Int} : ∀ u ∈ kv k zs, u.oneCell' = true := by
  intro u hu
  simp only [kv, List.mem_map] at hu
  obtain ⟨z, _, rfl⟩ := hu
  rfl
theorem kv_get {k : IntKind} {zs : List Int} {j : Nat} (hj : j < zs.length) : (kv k zs)[j]? = some (.int k (zs.getD j 0)) := by
  have : zs[j]? = some (zs[j]'hj) := List.getElem?_eq_getElem hj
  simp only [kv, List.getElem?_map, this, Option.map_some, List.getD_eq_getElem?_getD, Option.getD_some]
/-- the head of a row that is not empty, whatever it holds -/
theorem Reads.row {w : World} {B n F : Nat} {A : Option Addr} {xs : List Value} (h : Reads w B F A n xs) (hF : 0 < F) (hn : 0 < n) :
    ∃ b off, A = some ⟨b, off, none⟩ ∧ b < B ∧ ∀ j u, xs[j]? = some u → w.cell? ⟨b, off + j, none⟩ = some u := by
  obtain ⟨ad, hA, hb, hc⟩ := h.2 hn
  obtain ⟨b, off, spot⟩ := ad
  have h0 : 0 < xs.length := by rw [h.1]; exact Nat.mul_pos hn hF
  have hs : spot = none := by
    have h2 := World.cell?_spot (hc 0 _ (List.getElem?_eq_getElem h0))
    unfold Addr.add at h2
    rw [if_pos rfl] at h2
    exact h2
  subst hs
  refine ⟨b, off, hA, hb, fun j u hu => ?_⟩
  rw [← hc j u hu]
  unfold Addr.add
  by_cases h0 : j = 0 <;> simp [h0]
theorem reads_kcell {k : IntKind} {w : World} {B n j : Nat} {A : Option Addr} {zs : List Int} (h : Reads w B 1 A n (kv k zs)) (hj : j < n) :
    ∃ b off, A = some ⟨b, off, none⟩ ∧ b < B ∧ w.cell? ⟨b, off + j, none⟩ = some (.int k (zs.getD j 0)) := by
  obtain ⟨b, off, hA, hb, hc⟩ := h.row (by omega) (by omega)
  have hl : zs.length = n := by have := h.1; simpa [kv] using this
  exact ⟨b, off, hA, hb, hc j _ (kv_get (by omega))⟩
theorem Reads.klen {k : IntKind} {w : World} {B n F : Nat} {A : Option Addr} {zs : List Int} (h : Reads w B F A n (kv k zs)) : zs.length = n * F := by
  have := h.1; simpa [kv] using this
def okK (k : IntKind) (zs : List Int) : Prop := ∀ z ∈ zs, (Lit.int k z).wf = true
theorem okK_get {k : IntKind} {zs : List Int} (h : okK k zs) (j : Nat) (hj : j < zs.length) : (Lit.int k (zs.getD j 0)).wf = true := by
  have : zs.getD j 0 ∈ zs := by rw [List.getD_eq_getElem?_getD, List.getElem?_eq_getElem hj]; exact List.getElem_mem hj
  exact h _ this
section
open Go.Deep
variable {H : Type} {enc : TypeId × Value → H} {P : Program} {w : World}
theorem kints_open {k : IntKind} {t e : TypeId} {A : Option Addr} {n c : Nat} {d : DataW H} {ps : List MemPlace} (ht : P.underlying t = some (.slice e)) (he : P.underlying e = some (.int k)) (hC : P.cellsOf e = 1)
    (h : DataW.Trod enc P w 0 (fun _ => true) true t (.slice A n c) d ps) : ∃ zs, Reads w w.heap.size 1 A n (kv k zs) ∧ okK k zs ∧ (n ≤ c ∧ c ≤ maxLen) := by
  obtain ⟨fuel, hf⟩ := h
  rcases open_ints ht he hC hf with ⟨hcs, _⟩ | ⟨x, l, c', zs, hcs, _, hl, hm, hz, _, hcell, hwz⟩
  · simp [Value.cells] at hcs
    obtain ⟨rfl, rfl, rfl⟩ := hcs
    exact ⟨[], Reads.none_, by intro z hz; simp at hz, by simp [maxLen]⟩
  · simp [Value.cells] at hcs
    obtain ⟨rfl, rfl, rfl⟩ := hcs
    have hz' : zs.length = c := by simpa using hz
    refine ⟨zs.take n, ⟨by simp [kv, hz']; omega, fun h0 => ⟨x, rfl, ?_, fun j u hu => ?_⟩⟩, fun z hz => hwz z (List.mem_of_mem_take hz), hl, hm⟩
    · have := block_lt_of_cell (hcell 0 (by omega))
      rwa [block_of_add] at this
    · have hj : j < (kv k (zs.take n)).length := (List.getElem?_eq_some_iff.1 hu).1
      simp only [kv, List.map_take, List.length_take, List.length_map] at hj
      rw [hcell j (by omega)]
      simp only [kv, List.map_take] at hu
      rw [List.getElem?_take_of_lt (by omega)] at hu
      have h3 := kv_get (k := k) (zs := zs) (j := j) (by omega)
      simp only [kv] at h3
      rw [h3] at hu
      exact hu
end
end Go.Proofs.Ytencgokpbfkeiaa
