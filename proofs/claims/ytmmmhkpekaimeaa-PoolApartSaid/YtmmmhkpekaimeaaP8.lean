/- A pool of ints (layer 6): Take and Give of a pool in any state. -/
import Derived.Test.YtmmmhkpekaimeaaP7
set_option linter.unusedVariables false
namespace Go.Proofs.Ytmmmhkpekaimeaa
open Go.ChangeShapes Go.WideShapes Go.ChangeAt Go.RowKit
/-- a pool at block g, its nodes X, what lies ready Y -/
def St (w : World) (base g : Nat) (most : Int) (X : List (Int × Bool)) (Y : List Int) : Prop :=
  ∃ x n y m, Pl w base g most x n X y m Y ∧ Ready X Y ∧ (n : Int) ≤ most ∧ X.length = n ∧ Y.length = m ∧ base ≤ g
/-- what a call on a pool leaves as it was: all below base, and every block of another kind -/
def Keeps (base : Nat) (w w' : World) : Prop := Below base w w' ∧ ∀ q t cs, Blk w q t cs → t ≠ 103 → t ≠ 105 → t ≠ 3 → Blk w' q t cs
theorem keeps_of {w w' : World} {base g n m : Nat} {most : Int} {x y : Value} {X : List (Int × Bool)} {Y : List Int} {S : Nat → Prop} (h : Pl w base g most x n X y m Y) (hg : base ≤ g) (ho : Only S w w') (hS : ∀ q, S q → q = g ∨ x.ownBlock = some q ∨ y.ownBlock = some q) (hb : base ≤ w.heap.size) : Keeps base w w' := by
  refine ⟨ho.below hb (fun i hi hs => ?_), fun q t cs hq h1 h2 h3 => ho.blk hq (fun hs => ?_)⟩
  · rcases hS i hs with rfl | h' | h'
    · omega
    · have := (h.2.1.lt i h').1; omega
    · have := (h.2.2.1.lt i h').1; omega
  · rcases hS q hs with rfl | h' | h'
    · exact Blk.ne_ hq h.1 h1 rfl
    · exact own_ne h.2.1 hq (fun e => h2 e.symm) h'
    · exact own_ne h.2.2.1 hq (fun e => h3 e.symm) h'
theorem only_false {w w' : World} {base : Nat} (ho : Only (fun _ => False) w w') (hb : base ≤ w.heap.size) : Keeps base w w' :=
  ⟨ho.below hb (fun _ _ h => h), fun q t cs hq _ _ _ => ho.blk hq (fun h => h)⟩
theorem take_st (base g : Nat) (most v : Int) (X : List (Int × Bool)) (Y : List Int) (w : World) (h : St w base g most X Y) (hm : most ≤ 1048576) (hb : base ≤ w.heap.size) :
    Calls Try.prog 36 #[.pointer (some ⟨g, 0, none⟩), .int .i64 v] w fun e w' =>
      ((∃ (k : Nat) (X' : List (Int × Bool)) (Y' : List Int), e = .returned (.tuple #[.int .i64 ((k : Int) + 1), .int .i64 0]) ∧ St w' base g most X' Y' ∧ (k : Int) < most ∧ tk X k = false ∧ Y'.length ≤ Y.length ∧ ∀ j, tk X' j = if j = k then true else tk X j)
        ∨ (e = .returned (.tuple #[.int .i64 0, .int .i64 4]) ∧ St w' base g most X Y)) ∧ Keeps base w w' := by
  obtain ⟨x, n, y, m, hp, hr, hn, hX, hY, hg⟩ := h
  have hgl := hp.1.lt
  cases m with
  | zero =>
    obtain rfl := List.eq_nil_of_length_eq_zero hY
    obtain ⟨A2, c2, rfl, -⟩ := own_slice hp.2.2.1
    by_cases hlt : (n : Int) < most
    · refine (take_of base g n (n + 1) 0 most v (X ++ [(0, false)]) (.slice A2 0 c2) [] (fun b => b = g ∨ some b = x.ownBlock) w (by omega) (by omega) hgl (fun i h => h.elim (fun h => by omega) (fun h => (hp.2.1.lt i h.symm).2)) (fun b hb => (hp.2.2.1.lt b hb).2)
        (fun W hW => (pool_free_new base g n most x A2 c2 X W (hp.keep hW (fun h => h) (fun _ _ h => h) (fun _ _ h => h)) hlt hm (Nat.le_trans hb hW.size)).mono fun e w' h => by
          obtain ⟨h1, x', h2, h3, h4⟩ := h
          exact ⟨h1, x', h2, h3, fun b hb => h4.elim (fun h => .inr (.inr (by rw [← h, hb]))) (fun h => .inl (h b hb))⟩)).mono fun e w' h => ?_
      obtain ⟨h1, ⟨x', h2, -⟩, h3⟩ := h
      refine ⟨.inl ⟨n, _, [], h1, ⟨x', n + 1, _, 0, h2, ready_nil _, by omega, by simp [hX], rfl, hg⟩, hlt, ?_, Nat.le_refl _, fun j => ?_⟩, keeps_of hp hg h3 (fun q hq => hq.elim .inl (fun h => .inr (.inl h.symm))) hb⟩
      · unfold tk; rw [List.getD_eq_getElem?_getD, List.getElem?_eq_none (by omega)]; rfl
      · rw [tk_set _ n j v true (by simp; omega), tk_new]
    · refine (take_full g v w (fun W hW => pool_free_full base g n most x A2 c2 X W (hp.keep hW (fun h => h) (fun _ _ h => h) (fun _ _ h => h)) (by omega))).mono fun e w' h => ?_
      obtain ⟨h1, h2⟩ := h
      exact ⟨.inr ⟨h1, x, n, _, 0, hp.keep h2 (fun h => h) (fun _ _ h => h) (fun _ _ h => h), hr, hn, hX, rfl, hg⟩, only_false h2 hb⟩
  | succ m =>
    obtain ⟨b', c', rfl, hb1, hb2⟩ := hp.2.2.1.form (by omega)
    obtain ⟨j, hj, hjl, hjf, hr'⟩ := ready_take X Y m v hr hY
    refine (take_of base g j n m most v X (.slice (some ⟨b', 0, none⟩) m c') (Y.take m) (fun b => b = g ∨ some b = x.ownBlock) w (by omega) (by omega) hgl (fun i h => h.elim (fun h => by omega) (fun h => (hp.2.1.lt i h.symm).2)) (fun b hb => by cases hb; exact hb2)
      (fun W hW => (pool_free_given base g m c' b' most x n X Y W (hp.keep hW (fun h => h) (fun _ _ h => h) (fun _ _ h => h)) (own_caps hp.2.2.1)).mono fun e w' h => by
        obtain ⟨h1, h2, h3⟩ := h
        exact ⟨by rw [h1, hj], x, h2, h3.mono (fun i _ h => .inl h), fun b hb => .inr (.inr hb.symm)⟩)).mono fun e w' h => ?_
    obtain ⟨h1, ⟨x', h2, -⟩, h3⟩ := h
    refine ⟨.inl ⟨j, _, _, h1, ⟨x', n, _, m, h2, hr', hn, by simp [hX], by rw [List.length_take]; omega, hg⟩, by omega, hjf, by rw [List.length_take]; omega, fun q => tk_set X j q v true hjl⟩, keeps_of hp hg h3 (fun q hq => hq.elim .inl (fun h => .inr (.inl h.symm))) hb⟩
theorem nv_tk : ∀ (X : List (Int × Bool)) (k : Nat), k < X.length → (nv X)[k * 2 + 1]? = some (.bool (tk X k))
  | [], k, h => by simp at h
  | (a, t) :: l, 0, h => by simp [nv, tk]
  | (a, t) :: l, k + 1, h => by
      rw [show (k + 1) * 2 + 1 = (k * 2 + 1) + 1 + 1 by omega]
      simp only [nv, List.getElem?_cons_succ]
      rw [nv_tk l k (by simpa using h)]
      simp [tk]
theorem give_st (base g : Nat) (most i : Int) (X : List (Int × Bool)) (Y : List Int) (w : World) (h : St w base g most X Y) (hm : most ≤ 1048576) (hb : base ≤ w.heap.size) (hy : Y.length ≤ 1048576) :
    Calls Try.prog 35 #[.pointer (some ⟨g, 0, none⟩), .int .i64 i] w fun e w' =>
      ((∃ (k : Nat) (X' : List (Int × Bool)) (Y' : List Int), i = (k : Int) + 1 ∧ e = .returned (.int .i64 0) ∧ St w' base g most X' Y' ∧ (k : Int) < most ∧ tk X k = true ∧ Y'.length ≤ Y.length + 1 ∧ ∀ j, tk X' j = if j = k then false else tk X j)
        ∨ (e = .returned (.int .i64 6) ∧ St w' base g most X Y)) ∧ Keeps base w w' := by
  obtain ⟨x, n, y, m, hp, hr, hn, hX, hY, hg⟩ := h
  have no : Refused g i w → Calls Try.prog 35 #[.pointer (some ⟨g, 0, none⟩), .int .i64 i] w fun e w' =>
      ((∃ (k : Nat) (X' : List (Int × Bool)) (Y' : List Int), i = (k : Int) + 1 ∧ e = .returned (.int .i64 0) ∧ St w' base g most X' Y' ∧ (k : Int) < most ∧ tk X k = true ∧ Y'.length ≤ Y.length + 1 ∧ ∀ j, tk X' j = if j = k then false else tk X j)
        ∨ (e = .returned (.int .i64 6) ∧ St w' base g most X Y)) ∧ Keeps base w w' := fun hno =>
    (pool_give_no g i w hno).mono fun e w' h => ⟨.inr ⟨h.1, x, n, y, m, hp.keep h.2 (fun h => h) (fun _ _ h => h) (fun _ _ h => h), hr, hn, hX, hY, hg⟩, only_false h.2 hb⟩
  obtain ⟨A1, c1, rfl, -⟩ := own_slice hp.2.1
  by_cases h1 : i < 1
  · exact no (fun W f hW => at_low g n c1 A1 most i y f W (hW.blk hp.1 (fun h => h)) h1)
  by_cases h2 : (n : Int) < i
  · exact no (fun W f hW => at_high g n c1 A1 most i y f W (hW.blk hp.1 (fun h => h)) h2)
  obtain ⟨k, rfl⟩ : ∃ k : Nat, i = (k : Int) + 1 := ⟨(i - 1).toNat, by omega⟩
  have hk : k < n := by omega
  obtain ⟨b, c, hv, hb1, hb2⟩ := hp.2.1.form (by omega)
  cases hv
  have ht : w.cell? ⟨b, k * 2 + 1, none⟩ = some (.bool (tk X k)) := by rw [hp.2.1.cellAt _ (by omega), nv_tk X k (by omega)]
  cases hc : tk X k with
  | false =>
    rw [hc] at ht
    exact no (fun W f hW => at_free g n c1 b k most y f W hk (by omega) (hW.blk hp.1 (fun h => h)) (by rw [← ht]; exact World.cell?_of_block (hW.block _ hb2 (fun h => h))))
  | true =>
    rw [hc] at ht
    refine (pool_give base g k n m b c1 most X y Y w hp hk (by omega) (by omega) hb ht).mono fun e w' h => ?_
    obtain ⟨h1, ⟨y', h2⟩, h3⟩ := h
    refine ⟨.inl ⟨k, _, _, rfl, h1, ⟨_, n, y', m + 1, h2, ready_give X Y k hr (by omega) hc, hn, by simp [hX], by simp [hY], hg⟩, by omega, hc, by simp, fun j => tk_set X k j 0 false (by omega)⟩, keeps_of hp hg h3 (fun q hq => hq.elim .inl (fun h => h.elim (fun h => .inr (.inl (by rw [h]; rfl))) (fun h => .inr (.inr h.symm)))) hb⟩
end Go.Proofs.Ytmmmhkpekaimeaa
