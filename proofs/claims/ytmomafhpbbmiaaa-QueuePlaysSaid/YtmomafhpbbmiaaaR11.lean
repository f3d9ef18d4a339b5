/- A list beside a queue (layer 11): what is kept of both. -/
import Derived.Test.YtmomafhpbbmiaaaR10
import Derived.Deep.CutBlock
set_option linter.unusedVariables false
namespace Go.Proofs.Ytmomafhpbbmiaaa
open Go.ChangeShapes Go.WideShapes Go.ChangeAt Go.RowKit
/-- a slice that reads as a list, apart from a queue at block g with slots x -/
def Ls (w : World) (A : Option Addr) (n c : Nat) (L : List Int) (g : Nat) (x : Value) : Prop :=
  n = L.length ∧ n ≤ c ∧ c ≤ maxLen ∧ Reads w w.heap.size 1 A n (iv L) ∧ ∀ ad, A = some ad → ad.block < w.heap.size ∧ ad.block ≠ g ∧ x.ownBlock ≠ some ad.block
theorem Ls.step {w w' : World} {A : Option Addr} {n c : Nat} {L : List Int} {g : Nat} {x x' : Value} {S : Nat → Prop} (h : Ls w A n c L g x) (ho : Only S w w') (hS : ∀ i, S i → i = g ∨ x.ownBlock = some i) (hx : x'.ownBlock = x.ownBlock ∨ ∀ b, x'.ownBlock = some b → w.heap.size ≤ b) : Ls w' A n c L g x' := by
  obtain ⟨h1, h2, h3, h4, h5⟩ := h
  refine ⟨h1, h2, h3, ⟨h4.1, fun hn => ?_⟩, fun ad hA => ?_⟩
  · obtain ⟨ad, hA, hb, hc⟩ := h4.2 hn
    refine ⟨ad, hA, Nat.lt_of_lt_of_le hb ho.size, fun j u hu => ?_⟩
    rw [← hc j u hu]
    refine World.cell?_of_block (ho.block _ (by rw [block_of_add]; exact hb) (fun hs => ?_))
    rw [block_of_add] at hs
    obtain ⟨_, k1, k2⟩ := h5 ad hA
    rcases hS _ hs with e | e
    · exact k1 e
    · exact k2 e
  · obtain ⟨k0, k1, k2⟩ := h5 ad hA
    refine ⟨Nat.lt_of_lt_of_le k0 ho.size, k1, fun e => ?_⟩
    rcases hx with h | h
    · exact k2 (by rw [← h, e])
    · have := h _ e; omega
theorem Ls.still {w w' : World} {A : Option Addr} {n c : Nat} {L : List Int} {g : Nat} {x : Value} (h : Ls w A n c L g x) (ho : Only (fun _ => False) w w') : Ls w' A n c L g x := h.step ho (fun _ h => h.elim) (.inl rfl)
/-- a list that is new -/
theorem Ls.fresh0 {w w' : World} {v : Value} {L : List Int} {base g : Nat} {most : Int} {x : Value} {K : List Int} (h : Fresh w w' v L) (ho : Only (fun _ => False) w w') (hg : Rg w base g most x K) : ∃ A c, v = .slice A L.length c ∧ Ls w' A L.length c L g x := by
  unfold Fresh at h
  obtain ⟨A, c, rfl, hr⟩ := own_slice h
  refine ⟨A, c, rfl, rfl, ?_⟩
  rcases h.2 with ⟨h1, h2⟩ | ⟨b, cap, cur, hv, hb, hh, hn, hcap, h4⟩
  · obtain rfl : L = [] := by simpa [iv] using h2
    cases h1
    refine ⟨Nat.zero_le _, by simp [maxLen], hr, fun ad hA => by cases hA⟩
  · cases hv
    refine ⟨hn, hcap, hr, fun ad hA => ?_⟩
    cases hA
    refine ⟨?_, ?_, fun e => ?_⟩
    · exact (h.lt b rfl).2
    · have := hg.lt; show b ≠ g; omega
    · have := (hg.own _ e).2.1; exact absurd (show b < w.heap.size from this) (by omega)
theorem Ls.fresh {w w' : World} {v : Value} {L : List Int} {base g : Nat} {most : Int} {x : Value} {K : List Int} (h : Fresh w w' v L) (ho : Only (fun _ => False) w w') (hg : Rg w base g most x K) : ∃ A n c, v = .slice A n c ∧ Ls w' A n c L g x := by
  obtain ⟨A, c, h1, h2⟩ := Ls.fresh0 h ho hg
  exact ⟨A, L.length, c, h1, h2⟩
theorem Ls.nil {w : World} {g : Nat} {x : Value} {base : Nat} {most : Int} {K : List Int} (hg : Rg w base g most x K) : Ls (w.alloc (.cells #[] 3)) (some ⟨w.heap.size, 0, none⟩) 0 0 [] g x :=
  ⟨rfl, Nat.le_refl _, by simp [maxLen], (Reads.none_ (B := _)), fun ad hA => by
    cases hA
    refine ⟨by simp, ?_, fun e => ?_⟩
    · have := hg.lt; show w.heap.size ≠ g; omega
    · have := (hg.own _ e).2.1; exact absurd (show w.heap.size < w.heap.size from this) (by omega)⟩
/-- what the rounds keep: the queue, and the list beside it -/
def RL (w wr : World) (most : Int) (v : Value) : Prop := ∃ L x A n c, v = .slice A n c ∧ Rg wr w.heap.size w.heap.size most x L ∧ Ls wr A n c L w.heap.size x ∧ Below w.heap.size w wr
theorem Ls.tail {w : World} {b off n c : Nat} {a : Int} {L : List Int} {g : Nat} {x : Value} (h : Ls w (some ⟨b, off, none⟩) (n + 1) c (a :: L) g x) : Ls w (if c = 1 then some ⟨b, off, none⟩ else some ⟨b, off + 1, none⟩) n (c - 1) L g x := by
  obtain ⟨h1, h2, h3, h4, h5⟩ := h
  have hn : n = L.length := by simpa using h1
  refine ⟨hn, by omega, by omega, ?_, fun ad hA => ?_⟩
  · have k := h4.cut (k := 1) (cap := c) (by omega) h2
    have e1 : (iv (a :: L)).drop (1 * 1) = iv L := by simp [iv]
    have e2 : (some (⟨b, off, none⟩ : Addr)).map (·.add (1 * 1)) = some ⟨b, off + 1, none⟩ := by
      simp only [Option.map_some, Option.some.injEq]
      rfl
    rw [e1, e2, Nat.add_sub_cancel] at k
    exact k
  · have := h5 _ rfl
    split at hA <;> cases hA <;> exact this
theorem reads2 {w : World} {B n k : Nat} {A : Option Addr} {S : List Int} (h : Reads w B 2 A n (iv S)) (hk : k < n) :
    ∃ b off, A = some ⟨b, off, none⟩ ∧ b < B ∧ w.cell? ⟨b, off + k * 2, none⟩ = some (.int .i64 (S.getD (k * 2) 0)) ∧ w.cell? ⟨b, off + k * 2 + 1, none⟩ = some (.int .i64 (S.getD (k * 2 + 1) 0)) := by
  obtain ⟨b, off, hA, hb, hc⟩ := h.head (by omega) (by omega)
  exact ⟨b, off, hA, hb, hc _ (by omega), hc (k * 2 + 1) (by omega)⟩
end Go.Proofs.Ytmomafhpbbmiaaa
