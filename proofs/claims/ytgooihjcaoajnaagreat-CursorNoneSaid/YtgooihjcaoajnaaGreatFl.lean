/- Structs of integers in structs: flat rows of integers, by value and in slices. -/
import Derived.Test.YtgooihjcaoajnaaGreatO
set_option linter.unusedVariables false
namespace Go.Proofs.YtgooihjcaoajnaaGreat
open Go.ChangeShapes Go.WideShapes Go.ChangeAt Go.RowKit
def flatL (P : Program) (fl : TypeId → Option Nat) : List Field → Nat → Option Nat
  | [], off => some off
  | f :: l, off => if f.offset = off then (match fl f.type with
    | some k => if P.cellsOf f.type = k then flatL P fl l (off + k) else none
    | none => none) else none
/-- how many integers of 64 bits a type is, if it is nothing else -/
def flat (P : Program) : Nat → TypeId → Option Nat
  | 0, _ => none
  | m + 1, t => match P.underlying t with
    | some (.int .i64) => some 1
    | some (.struct fs) => (match flatL P (flat P m) fs.toList 0 with
      | some k => if P.cellsOf t = k then some k else none
      | none => none)
    | _ => none
section
open Go.Deep
variable {H : Type} {enc : TypeId × Value → H} {P : Program} {w : World} {base : Nat} {spare : Nat → Bool} {held : Bool}
theorem flatL_iv {fl : TypeId → Option Nat} (hfl : ∀ t k cs fuel (x : DataW H × List MemPlace), fl t = some k → DataW.trod enc P w base spare held fuel t cs = some x → ∃ zs, cs = iv zs ∧ okAll zs ∧ zs.length = k) (cs : List Value) (fuel : Nat) :
    ∀ (l : List Field) (off k : Nat), flatL P fl l off = some k → (∀ f ∈ l, ∃ x, DataW.trod enc P w base spare held fuel f.type ((cs.drop f.offset).take (P.cellsOf f.type)) = some x) →
      ∃ zs, (cs.drop off).take (k - off) = iv zs ∧ okAll zs ∧ off + zs.length = k
  | [], off, k, h, _ => by
    simp only [flatL, Option.some.injEq] at h
    subst h
    exact ⟨[], by simp [iv], by intro z hz; simp at hz, by simp⟩
  | f :: l, off, k, h, hx => by
    simp only [flatL] at h
    split at h
    case isFalse => cases h
    rename_i ho
    split at h
    case h_2 => cases h
    rename_i k1 h1
    split at h
    case isFalse => cases h
    rename_i hc
    obtain ⟨x, htr⟩ := hx f (by simp)
    obtain ⟨z1, e1, o1, l1⟩ := hfl _ _ _ _ _ h1 htr
    obtain ⟨z2, e2, o2, l2⟩ := flatL_iv hfl cs fuel l _ _ h (fun g hg => hx g (by simp [hg]))
    rw [ho, hc] at e1
    refine ⟨z1 ++ z2, ?_, fun z hz => ?_, by rw [List.length_append]; omega⟩
    · have hk : k - off = k1 + (k - (off + k1)) := by omega
      rw [hk, List.take_add, e1, List.drop_drop, e2, iv_append]
    · rcases List.mem_append.1 hz with h | h
      · exact o1 z h
      · exact o2 z h
theorem flat_trod : ∀ (m : Nat) (t : TypeId) (k : Nat) (cs : List Value) (fuel : Nat) (x : DataW H × List MemPlace), flat P m t = some k → DataW.trod enc P w base spare held fuel t cs = some x → ∃ zs, cs = iv zs ∧ okAll zs ∧ zs.length = k
  | 0, t, k, cs, fuel, x, h, _ => by simp [flat] at h
  | m + 1, t, k, cs, fuel, x, h, htr => by
    simp only [flat] at h
    split at h
    · rename_i ht
      cases h
      obtain ⟨z, rfl, _, hw⟩ := DataW.trod_int ht htr
      exact ⟨[z], rfl, by intro y hy; simp only [List.mem_singleton] at hy; subst hy; exact bd64 hw, rfl⟩
    · rename_i fs ht
      split at h
      case h_2 => cases h
      rename_i k' hk
      split at h
      case isFalse => cases h
      rename_i hc
      cases h
      obtain ⟨xs, n, _, _, hl, hlen, hf⟩ := DataW.trod_struct ht htr
      obtain ⟨zs, e, o, l⟩ := flatL_iv (flat_trod m) cs n fs.toList 0 k hk (fun f hf' => by
        obtain ⟨i, hi, he⟩ := List.mem_iff_getElem.1 hf'
        have hi' : i < fs.size := by simpa using hi
        have h1 : fs[i]? = some f := by rw [Array.getElem?_eq_getElem hi']; simpa using he
        have h2 : i < xs.length := by omega
        exact ⟨xs[i]'h2, by rw [hf i f h1, List.getElem?_eq_getElem h2]⟩)
      refine ⟨zs, ?_, o, by omega⟩
      rw [← e, List.drop_zero, Nat.sub_zero, List.take_of_length_le (by omega)]
    · cases h
theorem flat_wf {zs : List Int} {a : Int} {j : Nat} (h : okAll zs) (hj : j < zs.length) (ha : zs.getD j 0 = a) : (Lit.int .i64 a).wf = true := by
  have hm : a ∈ zs := by rw [← ha, List.getD_eq_getElem?_getD, List.getElem?_eq_getElem hj]; exact List.getElem_mem hj
  have := h a hm
  simp [Lit.wf, IntKind.min, IntKind.max, IntKind.signed, IntKind.bits]
  omega
theorem len_cons {zs : List Int} {k : Nat} (h : zs.length = k + 1) : ∃ a l, zs = a :: l ∧ l.length = k := by
  match zs, h with
  | a :: l, h => exact ⟨a, l, rfl, by simpa using h⟩
/-- a struct by value -/
theorem flat_open {m k b0 : Nat} {r : Reach} {t : TypeId} {fs : Array Field} {v : Value} {d : DataW H} {p : List MemPlace} (ht : P.underlying t = some (.struct fs)) (hk : flat P m t = some k)
    (hv : Value.okWide P w r b0 t v) (h : DataW.Trod enc P w base spare held t v d p) : ∃ zs, v = .agg (iv zs).toArray ∧ okAll zs ∧ zs.length = k := by
  obtain ⟨cs, rfl, hsz⟩ : ∃ cs, v = .agg cs ∧ cs.size = P.cellsOf t := by
    simp only [Value.okWide, ht] at hv
    obtain ⟨cs, h1, h2, _⟩ := hv
    exact ⟨cs, h1, h2⟩
  obtain ⟨fuel, hf⟩ := h
  obtain ⟨zs, e, o, l⟩ := flat_trod m t k _ fuel _ hk hf
  simp only [Value.cells] at e
  exact ⟨zs, by rw [← e], o, l⟩
/-- a slice of structs -/
theorem flats_open {m F : Nat} {t e : TypeId} {A : Option Addr} {n c : Nat} {d : DataW H} {ps : List MemPlace} (ht : P.underlying t = some (.slice e)) (hk : flat P m e = some F) (hC : P.cellsOf e = F) (hF0 : 0 < F)
    (h : DataW.Trod enc P w 0 (fun _ => true) true t (.slice A n c) d ps) : ∃ zs, Reads w w.heap.size F A n (iv zs) ∧ okAll zs ∧ (n ≤ c ∧ c ≤ maxLen) := by
  obtain ⟨fuel, hf⟩ := h
  rcases DataW.trod_slice ht hf with ⟨hcs, _⟩ | ⟨x, l, c', elems, rest, m', _, hcs, _, _, hl, hm, hle, hi, _⟩
  · simp [Value.cells] at hcs
    obtain ⟨rfl, rfl, rfl⟩ := hcs
    exact ⟨[], ⟨by simp [iv], fun h => absurd h (by omega)⟩, by intro z hz; simp at hz, by simp [maxLen]⟩
  · simp [Value.cells] at hcs
    obtain ⟨rfl, rfl, rfl⟩ := hcs
    have key : ∀ q, q < n * F → w.cell? (x.add q) = some (.int .i64 (zAt w x q)) ∧ -9223372036854775808 ≤ zAt w x q ∧ zAt w x q ≤ 9223372036854775807 := by
      intro q hq
      have h1 : q / F < n := Nat.div_lt_of_lt_mul (by rw [Nat.mul_comm]; exact hq)
      have h2 : q % F < F := Nat.mod_lt _ hF0
      have h6 := hi (q / F) h1
      rw [List.getElem?_eq_getElem (by omega)] at h6
      obtain ⟨cs, hcs, htr⟩ := Option.bind_eq_some_iff.1 h6
      obtain ⟨zs, rfl, ho, hlz⟩ := flat_trod m e F _ _ _ hk htr
      have h3 := (World.cells?_some hcs).2.2 (q % F) (by rw [hC]; exact h2)
      have h4 : q / F * F + q % F = q := by rw [Nat.mul_comm]; exact Nat.div_add_mod q F
      have h8 : zs[q % F]? = some (zs[q % F]'(by omega)) := List.getElem?_eq_getElem (by omega)
      have h7 : w.cell? (x.add q) = some (.int .i64 (zs[q % F]'(by omega))) := by
        rw [hC] at h3
        have : (x.add (q / F * F)).add (q % F) = x.add q := by rw [Addr.add_add, h4]
        rw [this] at h3
        rw [h3]
        simp only [iv, List.getElem?_map, h8, Option.map_some]
      have h5 : zAt w x q = zs[q % F]'(by omega) := by unfold zAt; rw [h7]
      rw [h5]
      exact ⟨h7, ho _ (List.getElem_mem _)⟩
    refine ⟨(List.range (n * F)).map (zAt w x), ⟨by simp [iv], fun h0 => ⟨x, rfl, ?_, fun j u hu => ?_⟩⟩, ?_, hl, hm⟩
    · have := block_lt_of_cell (key 0 (Nat.mul_pos h0 hF0)).1
      rwa [block_of_add] at this
    · simp only [iv, List.map_map] at hu
      have hj : j < n * F := by simpa using (List.getElem?_eq_some_iff.1 hu).1
      rw [List.getElem?_map, List.getElem?_range hj] at hu
      simp only [Option.map_some, Option.some.injEq, Function.comp] at hu
      rw [(key j hj).1, hu]
    · intro z hz
      simp only [List.mem_map, List.mem_range] at hz
      obtain ⟨q, hq, rfl⟩ := hz
      exact (key q hq).2
end
end Go.Proofs.YtgooihjcaoajnaaGreat
