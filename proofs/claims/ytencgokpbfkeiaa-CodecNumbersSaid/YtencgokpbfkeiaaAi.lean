/- Unlike requests have unlike bytes: lists alone (layer 29). -/
import Derived.Test.YtencgokpbfkeiaaSa
set_option linter.unusedVariables false
set_option linter.unusedSimpArgs false
namespace Go.Proofs.Ytencgokpbfkeiaa
open Go.ChangeShapes Go.WideShapes Go.ChangeAt Go.RowKit
theorem only_fil (r : Rq) (hg : r.good = true) : fil (hdr (rhead r)) (rnums r) = r.only ∧ (rnums r).length = (rnums (hdr (rhead r))).length := by
  have hw := only_ways r hg
  obtain ⟨k, ck, pi, px, py, si, sl, sh, ⟨qk, b1, b2, b3, b4, w1, w2, w3, x, h⟩⟩ := r
  simp only at hw
  rcases hw with ⟨rfl, rfl | rfl | rfl | rfl⟩ | ⟨rfl, rfl | rfl | rfl | rfl | rfl | rfl | rfl⟩
  all_goals
    unfold Rq.only
    rw [if_pos hg]
    exact ⟨rfl, rfl⟩
theorem enc_only (r : Rq) (hg : r.good = true) : enc r.only = enc r := by
  have hw := only_ways r hg
  obtain ⟨k, ck, pi, px, py, si, sl, sh, ⟨qk, b1, b2, b3, b4, w1, w2, w3, x, h⟩⟩ := r
  simp only at hw
  rcases hw with ⟨rfl, rfl | rfl | rfl | rfl⟩ | ⟨rfl, rfl | rfl | rfl | rfl | rfl | rfl | rfl⟩
  all_goals
    unfold Rq.only
    rw [if_pos hg]
    rfl
theorem vints_inj : ∀ (a b : List Int), a.length = b.length → (∀ z ∈ a, I64 z) → (∀ z ∈ b, I64 z) → vints a = vints b → a = b
  | [], [], _, _, _, _ => rfl
  | [], _ :: _, h, _, _, _ => by simp at h
  | _ :: _, [], h, _, _, _ => by simp at h
  | x :: a, y :: b, h, ha, hb, he => by
    obtain ⟨e, h2⟩ := vint_append (ha x (by simp)) (hb y (by simp)) he
    rw [e, vints_inj a b (by simpa using h) (fun z hz => ha z (List.mem_cons_of_mem _ hz)) (fun z hz => hb z (List.mem_cons_of_mem _ hz)) h2]
theorem enc_inj (r s : Rq) (hr : r.good = true) (hs : s.good = true) (or : ROk r) (os : ROk s) (h : enc r = enc s) : r.only = s.only := by
  unfold enc at h
  simp only [List.cons.injEq] at h
  obtain ⟨h1, h2⟩ := h
  have a := only_fil r hr
  have b := only_fil s hs
  have e : rnums r = rnums s := vints_inj _ _ (by rw [a.2, b.2, h1]) or os h2
  rw [← a.1, ← b.1, h1, e]
theorem vints_bytes (l : List Int) : ∀ c ∈ vints l, 0 ≤ c ∧ c < 256 := by
  induction l with
  | nil => intro c hc; cases hc
  | cons z l ih =>
    intro c hc
    rcases List.mem_append.1 hc with h | h
    · exact vb_bytes _ c h
    · exact ih c h
theorem enc_bytes (r : Rq) (hg : r.good = true) : ∀ c ∈ enc r, 0 ≤ c ∧ c < 256 := by
  intro c hc
  rcases List.mem_cons.1 hc with rfl | h
  · have := rhead_in r hg; omega
  · exact vints_bytes _ c h
theorem bytes_inj : ∀ (a b : List Int), (∀ c ∈ a, 0 ≤ c ∧ c < 256) → (∀ c ∈ b, 0 ≤ c ∧ c < 256) → (a.map fun n => UInt8.ofNat n.toNat) = (b.map fun n => UInt8.ofNat n.toNat) → a = b
  | [], [], _, _, _ => rfl
  | [], _ :: _, _, _, h => by simp at h
  | _ :: _, [], _, _, h => by simp at h
  | x :: a, y :: b, ha, hb, h => by
    simp only [List.map_cons, List.cons.injEq] at h
    have hx := ha x (by simp)
    have hy := hb y (by simp)
    have e : x = y := by
      have h1 := congrArg UInt8.toNat h.1
      simp only [UInt8.toNat_ofNat'] at h1
      omega
    rw [e, bytes_inj a b (fun c hc => ha c (List.mem_cons_of_mem _ hc)) (fun c hc => hb c (List.mem_cons_of_mem _ hc)) h.2]
theorem str_inj (a b : List Int) (ha : ∀ c ∈ a, 0 ≤ c ∧ c < 256) (hb : ∀ c ∈ b, 0 ≤ c ∧ c < 256) (h : strOfNums a = strOfNums b) : a = b := by
  refine bytes_inj a b ha hb ?_
  have h1 := congrArg (fun s => s.data.toList) h
  simpa [strOfNums] using h1
theorem enc_same (r s : Rq) (hr : r.good = true) (hs : s.good = true) (or : ROk r) (os : ROk s) : strOfNums (enc r) = strOfNums (enc s) ↔ r.only = s.only := by
  constructor
  · intro h
    exact enc_inj r s hr hs or os (str_inj _ _ (enc_bytes r hr) (enc_bytes s hs) h)
  · intro h
    rw [← enc_only r hr, ← enc_only s hs, h]
end Go.Proofs.Ytencgokpbfkeiaa
