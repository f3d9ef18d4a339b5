/- A pool of ints (layer 6): a node is taken again. -/
import Derived.Test.YtmmmhkpekaimeaaP4
set_option linter.unusedVariables false
namespace Go.Proofs.Ytmmmhkpekaimeaa
open Go.ChangeShapes Go.WideShapes Go.ChangeAt Go.RowKit
theorem own_caps {w : World} {base b n c size : Nat} {e : TypeId} {xs : List Value} (h : w.ownsRow base e size (.slice (some ⟨b, 0, none⟩) n c) n xs) : n ≤ c ∧ c ≤ maxLen := by
  obtain ⟨_, _, _, hv, _, _, hnc, hcm, _⟩ := h.2.resolve_left (by simp)
  cases hv
  exact ⟨hnc, hcm⟩
set_option maxRecDepth 100000 in
set_option maxHeartbeats 4000000 in
theorem lives6 (w : World) : Calls Try.prog 27 #[] w fun e w' => e = .returned (.bool true) ∧ Below w.heap.size w w' := by
  have P1 : Pl (w.alloc (.cells #[.int .i64 3, .slice none 0 0, .slice none 0 0] 103)) w.heap.size w.heap.size 3 (.slice none 0 0) 0 [] (.slice none 0 0) 0 [] := ⟨Blk.new w 103 _, World.ownsRow_nil _ _ _ _, World.ownsRow_nil _ _ _ _, fun b hb => by cases hb⟩
  have z1 : (w.alloc (.cells #[.int .i64 3, .slice none 0 0, .slice none 0 0] 103)).heap.size = w.heap.size + 1 := by simp
  have k1 : Below w.heap.size w (w.alloc (.cells #[.int .i64 3, .slice none 0 0, .slice none 0 0] 103)) := (Below.refl _ _).alloc (Nat.le_refl _) _
  obtain ⟨W1, hW1⟩ : ∃ x, x = (w.alloc (.cells #[.int .i64 3, .slice none 0 0, .slice none 0 0] 103)) := ⟨_, rfl⟩
  rw [← hW1] at P1 z1 k1
  obtain ⟨g, hg⟩ : ∃ x, x = w.heap.size := ⟨_, rfl⟩
  rw [← hg] at P1 z1 k1
  have T1 : Calls Try.prog 36 #[.pointer (some ⟨g, 0, none⟩), .int .i64 7] W1 fun e w' => e = .returned (.tuple #[.int .i64 1, .int .i64 0]) ∧ (∃ x', Pl w' g g 3 x' 1 [(7, true)] (.slice none 0 0) 0 []) ∧ Only (fun b => b = g) W1 w' :=
    (take_of g g 0 1 0 3 7 [(0, false)] (.slice none 0 0) [] (fun b => b = g) W1 (by omega) (by omega) (by omega) (fun i h => by omega) (fun b hb => by cases hb)
      (fun W hW => (pool_free_new g g 0 3 (.slice none 0 0) none 0 [] W (P1.keep hW (fun h => h) (fun _ _ h => h) (fun _ _ h => h)) (by omega) (by omega) (by have := hW.size; omega)).mono fun e w' h => by
        obtain ⟨h1, x', hp, ho, hat⟩ := h
        exact ⟨h1, x', hp, ho.mono (fun i _ h => h.elim id (fun h => by cases h)), fun b hb => hat.elim (fun h => by rw [h] at hb; cases hb) (fun h => .inl (h b hb))⟩)).mono fun e w' h => by
        obtain ⟨h1, ⟨x', hp, -⟩, ho⟩ := h
        exact ⟨h1, ⟨x', hp⟩, ho⟩
  have HT1 := Lib.hid T1
  have HG := Lib.hid hg
  clear P1 T1
  go_enter Try.func27, Try.ntmps27
  go_wp2_with fail
  refine (pool_new 3 (by omega) _).mono ?_
  rintro e wx ⟨rfl, hwx⟩
  rw [← hW1] at hwx
  subst hwx
  rw [← HG.out]
  clear hW1 hg
  go_wp2_with fail
  refine (HT1.out).mono ?_
  rintro e w2 ⟨rfl, ⟨x', hp⟩, ho⟩
  obtain ⟨b, c, rfl, hbg, hbl⟩ := hp.2.1.form (by omega)
  have k2 : Below g w w2 := k1.trans (ho.below (by omega) (fun i hi h => by omega))
  have ht : w2.cell? ⟨b, 0 * 2 + 1, none⟩ = some (.bool true) := by rw [hp.2.1.cellAt _ (by omega)]; rfl
  have T2 : Calls Try.prog 35 #[.pointer (some ⟨g, 0, none⟩), .int .i64 1] w2 fun e w' => e = .returned (.int .i64 0) ∧ (∃ y', Pl w' g g 3 (.slice (some ⟨b, 0, none⟩) 1 c) 1 [(0, false)] y' 1 [1]) ∧ Only (fun q => q = g ∨ q = b) w2 w' :=
    (pool_give g g 0 1 0 b c 3 [(7, true)] (.slice none 0 0) [] w2 hp (by omega) (by omega) (by omega) (by omega) ht).mono fun e w' h => by
      obtain ⟨h1, ⟨y', h2⟩, h3⟩ := h
      exact ⟨h1, ⟨y', h2⟩, h3.mono (fun i _ h => h.imp id (fun h => h.elim id (fun h => by cases h)))⟩
  have HT2 := Lib.hid T2
  clear T2 hp ho ht HT1
  go_wp2_with fail
  refine (HT2.out).mono ?_
  rintro e w3 ⟨rfl, ⟨y', hp⟩, ho⟩
  obtain ⟨b', c', rfl, hbg', hbl'⟩ := hp.2.2.1.form (by omega)
  have k3 : Below g w w3 := k2.trans (ho.below (by have h := k2.size; have e := HG.out; omega) (fun i hi h => by omega))
  have z3 : b < w3.heap.size := (hp.2.1.lt _ rfl).2
  have hgl := hp.1.lt
  have T3 : Calls Try.prog 36 #[.pointer (some ⟨g, 0, none⟩), .int .i64 8] w3 fun e w' => e = .returned (.tuple #[.int .i64 1, .int .i64 0]) ∧ (∃ x', Pl w' g g 3 x' 1 [(8, true)] (.slice (some ⟨b', 0, none⟩) 0 c') 0 []) ∧ Only (fun q => q = g ∨ q = b) w3 w' :=
    (take_of g g 0 1 0 3 8 [(0, false)] (.slice (some ⟨b', 0, none⟩) 0 c') [] (fun q => q = g ∨ q = b) w3 (by omega) (by omega) hgl (fun i h => by omega) (fun q hq => by cases hq; exact hbl')
      (fun W hW => (pool_free_given g g 0 c' b' 3 (.slice (some ⟨b, 0, none⟩) 1 c) 1 [(0, false)] [1] W (hp.keep hW (fun h => h) (fun _ _ h => h) (fun _ _ h => h)) (own_caps hp.2.2.1)).mono fun e w' h => by
        obtain ⟨h1, h2, h3⟩ := h
        exact ⟨h1, _, h2, h3.mono (fun i _ h => .inl h), fun q hq => by cases hq; exact .inr (.inr rfl)⟩)).mono fun e w' h => by
        obtain ⟨h1, ⟨x', hp, -⟩, ho⟩ := h
        exact ⟨h1, ⟨x', hp⟩, ho⟩
  have HT3 := Lib.hid T3
  clear T3 hp ho HT2
  go_wp2_with fail
  refine (HT3.out).mono ?_
  rintro e w4 ⟨rfl, ⟨x', hp⟩, ho⟩
  obtain ⟨b4, c4, rfl, hbg4, hbl4⟩ := hp.2.1.form (by omega)
  have k4 : Below g w w4 := k3.trans (ho.below (by have h := k3.size; have e := HG.out; omega) (fun i hi h => by omega))
  have T4 : Calls Try.prog 33 #[.pointer (some ⟨g, 0, none⟩), .int .i64 1] w4 fun e w' => e = .returned (.tuple #[.int .i64 8, .bool true]) ∧ Below w4.heap.size w4 w' :=
    pool_get g 0 1 c4 b4 3 8 (.slice (some ⟨b', 0, none⟩) 0 c') w4 (by omega) (by omega) hp.1 (by rw [hp.2.1.cellAt _ (by omega)]; rfl) (by rw [hp.2.1.cellAt _ (by omega)]; rfl)
  have HT4 := Lib.hid T4
  clear T4 hp ho HT3
  go_wp2_with fail
  refine (HT4.out).mono ?_
  rintro e w5 ⟨rfl, hb5⟩
  have k5 : Below g w w5 := k4.trans (hb5.mono (by have h := k4.size; have e := HG.out; omega))
  clear HT4
  go_wp2_with fail
  go_ret
  rw [HG.out] at k5
  exact ⟨rfl, k5⟩
end Go.Proofs.Ytmmmhkpekaimeaa
