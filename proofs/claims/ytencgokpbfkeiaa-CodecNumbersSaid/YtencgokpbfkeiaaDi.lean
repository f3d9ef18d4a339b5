/- Bytes and requests, lists alone: what is written is read back, and what is read is what was written (layer 29). -/
import Derived.Test.YtencgokpbfkeiaaAi
set_option linter.unusedVariables false
set_option linter.unusedSimpArgs false
namespace Go.Proofs.Ytencgokpbfkeiaa
open Go.ChangeShapes Go.WideShapes Go.ChangeAt Go.RowKit
theorem rdn_vints : ∀ (l rest : List Int), (∀ z ∈ l, I64 z) → rdn l.length (vints l ++ rest) = some (l, rest)
  | [], rest, _ => rfl
  | z :: l, rest, h => by
    have hz := h z (by simp)
    simp only [List.length_cons, vints, rdn, List.append_assoc]
    rw [rd_vint z _ hz]
    simp only
    rw [List.drop_left, rdn_vints l rest (fun q hq => h q (List.mem_cons_of_mem _ hq))]
    simp only [zag_zig]
theorem rdn_some : ∀ (k : Nat) (bs l rest : List Int), (∀ c ∈ bs, 0 ≤ c ∧ c < 256) → rdn k bs = some (l, rest) → bs = vints l ++ rest ∧ l.length = k ∧ ∀ z ∈ l, I64 z
  | 0, bs, l, rest, hb, h => by
    simp only [rdn, Option.some.injEq, Prod.mk.injEq] at h
    obtain ⟨rfl, rfl⟩ := h
    exact ⟨rfl, rfl, by simp⟩
  | k + 1, bs, l, rest, hb, h => by
    simp only [rdn] at h
    cases hr : rd 0 0 bs with
    | none => rw [hr] at h; cases h
    | some p =>
      obtain ⟨Z, s⟩ := p
      rw [hr] at h
      simp only at h
      cases hq : rdn k (bs.drop s) with
      | none => rw [hq] at h; cases h
      | some q =>
        obtain ⟨l', r'⟩ := q
        rw [hq] at h
        simp only [Option.some.injEq, Prod.mk.injEq] at h
        obtain ⟨rfl, rfl⟩ := h
        have hv := vint_rd hb hr
        obtain ⟨h1, h2, h3⟩ := rdn_some k (bs.drop s) l' r' (fun c hc => hb c (List.mem_of_mem_drop hc)) hq
        refine ⟨?_, by simp [h2], ?_⟩
        · simp only [vints]
          rw [List.append_assoc, ← h1, ← hv.1, List.take_append_drop]
        · intro z hz
          rcases List.mem_cons.1 hz with rfl | hz
          · exact zag_in hv.2.2.1
          · exact h3 z hz
theorem hdr_good (r : Rq) (hg : r.good = true) : (hdr (rhead r)).good = true := by
  have hw := only_ways r hg
  obtain ⟨k, ck, pi, px, py, si, sl, sh, ⟨qk, b1, b2, b3, b4, w1, w2, w3, x, h⟩⟩ := r
  simp only at hw
  rcases hw with ⟨rfl, rfl | rfl | rfl | rfl⟩ | ⟨rfl, rfl | rfl | rfl | rfl | rfl | rfl | rfl⟩ <;> rfl
/-- what is written is read back -/
theorem dec_enc (r : Rq) (hg : r.good = true) (ho : ROk r) : dec (enc r) = some r.only := by
  have h := only_fil r hg
  unfold enc
  simp only [dec]
  rw [if_pos (hdr_good r hg), ← h.2]
  have e := rdn_vints (rnums r) [] ho
  rw [List.append_nil] at e
  rw [e]
  simp only
  rw [h.1]
theorem fil_back (c : Int) (h : 0 ≤ c ∧ c < 256) (hg : (hdr c).good = true) (l : List Int) (hl : l.length = (rnums (hdr c)).length) : rhead (fil (hdr c) l) = c ∧ rnums (fil (hdr c) l) = l ∧ (fil (hdr c) l).good = true ∧ (fil (hdr c) l).only = fil (hdr c) l := by
  rcases good_codes c h hg with rfl | rfl | rfl | rfl | rfl | rfl | rfl | rfl | rfl | rfl | rfl
  · change l.length = 3 at hl
    obtain ⟨l0, t0, rfl, h0⟩ := len_cons hl
    obtain ⟨l1, t1, rfl, h1⟩ := len_cons h0
    obtain ⟨l2, t2, rfl, h2⟩ := len_cons h1
    obtain rfl := List.eq_nil_of_length_eq_zero h2
    exact ⟨rfl, rfl, rfl, rfl⟩
  · change l.length = 1 at hl
    obtain ⟨l0, t0, rfl, h0⟩ := len_cons hl
    obtain rfl := List.eq_nil_of_length_eq_zero h0
    exact ⟨rfl, rfl, rfl, rfl⟩
  · change l.length = 3 at hl
    obtain ⟨l0, t0, rfl, h0⟩ := len_cons hl
    obtain ⟨l1, t1, rfl, h1⟩ := len_cons h0
    obtain ⟨l2, t2, rfl, h2⟩ := len_cons h1
    obtain rfl := List.eq_nil_of_length_eq_zero h2
    exact ⟨rfl, rfl, rfl, rfl⟩
  · change l.length = 1 at hl
    obtain ⟨l0, t0, rfl, h0⟩ := len_cons hl
    obtain rfl := List.eq_nil_of_length_eq_zero h0
    exact ⟨rfl, rfl, rfl, rfl⟩
  · change l.length = 4 at hl
    obtain ⟨l0, t0, rfl, h0⟩ := len_cons hl
    obtain ⟨l1, t1, rfl, h1⟩ := len_cons h0
    obtain ⟨l2, t2, rfl, h2⟩ := len_cons h1
    obtain ⟨l3, t3, rfl, h3⟩ := len_cons h2
    obtain rfl := List.eq_nil_of_length_eq_zero h3
    exact ⟨rfl, rfl, rfl, rfl⟩
  · change l.length = 4 at hl
    obtain ⟨l0, t0, rfl, h0⟩ := len_cons hl
    obtain ⟨l1, t1, rfl, h1⟩ := len_cons h0
    obtain ⟨l2, t2, rfl, h2⟩ := len_cons h1
    obtain ⟨l3, t3, rfl, h3⟩ := len_cons h2
    obtain rfl := List.eq_nil_of_length_eq_zero h3
    exact ⟨rfl, rfl, rfl, rfl⟩
  · change l.length = 3 at hl
    obtain ⟨l0, t0, rfl, h0⟩ := len_cons hl
    obtain ⟨l1, t1, rfl, h1⟩ := len_cons h0
    obtain ⟨l2, t2, rfl, h2⟩ := len_cons h1
    obtain rfl := List.eq_nil_of_length_eq_zero h2
    exact ⟨rfl, rfl, rfl, rfl⟩
  · change l.length = 3 at hl
    obtain ⟨l0, t0, rfl, h0⟩ := len_cons hl
    obtain ⟨l1, t1, rfl, h1⟩ := len_cons h0
    obtain ⟨l2, t2, rfl, h2⟩ := len_cons h1
    obtain rfl := List.eq_nil_of_length_eq_zero h2
    exact ⟨rfl, rfl, rfl, rfl⟩
  · change l.length = 1 at hl
    obtain ⟨l0, t0, rfl, h0⟩ := len_cons hl
    obtain rfl := List.eq_nil_of_length_eq_zero h0
    exact ⟨rfl, rfl, rfl, rfl⟩
  · change l.length = 2 at hl
    obtain ⟨l0, t0, rfl, h0⟩ := len_cons hl
    obtain ⟨l1, t1, rfl, h1⟩ := len_cons h0
    obtain rfl := List.eq_nil_of_length_eq_zero h1
    exact ⟨rfl, rfl, rfl, rfl⟩
  · change l.length = 2 at hl
    obtain ⟨l0, t0, rfl, h0⟩ := len_cons hl
    obtain ⟨l1, t1, rfl, h1⟩ := len_cons h0
    obtain rfl := List.eq_nil_of_length_eq_zero h1
    exact ⟨rfl, rfl, rfl, rfl⟩
/-- what is read is what was written -/
theorem dec_some (b : List Int) (hb : ∀ c ∈ b, 0 ≤ c ∧ c < 256) (x : Rq) (h : dec b = some x) : enc x = b ∧ x.good = true ∧ x.only = x ∧ ROk x := by
  cases b with
  | nil => cases h
  | cons c bs =>
    have hc := hb c (by simp)
    simp only [dec] at h
    by_cases hg : (hdr c).good = true
    · rw [if_pos hg] at h
      cases hr : rdn (rnums (hdr c)).length bs with
      | none => rw [hr] at h; cases h
      | some p =>
        obtain ⟨l, rest⟩ := p
        rw [hr] at h
        cases rest with
        | cons y ys => cases h
        | nil =>
          simp only [Option.some.injEq] at h
          subst h
          obtain ⟨h1, h2, h3⟩ := rdn_some _ bs l [] (fun q hq => hb q (List.mem_cons_of_mem _ hq)) hr
          obtain ⟨g1, g2, g3, g4⟩ := fil_back c hc hg l h2
          refine ⟨?_, g3, g4, ?_⟩
          · unfold enc
            rw [g1, g2, h1, List.append_nil]
          · unfold ROk
            rw [g2]
            exact h3
    · rw [if_neg hg] at h; cases h
end Go.Proofs.Ytencgokpbfkeiaa
