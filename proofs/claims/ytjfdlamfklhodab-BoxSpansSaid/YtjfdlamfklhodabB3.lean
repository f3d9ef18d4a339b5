/- Contracts of layer 4's checks and of its small living call. -/
import Derived.Test.YtjfdlamfklhodabB2
set_option linter.unusedVariables false
namespace Go.Proofs.Ytjfdlamfklhodab
open Go.ChangeShapes Go.WideShapes Go.ChangeAt Go.RowKit

theorem reads_block (w : World) (zs : List Int) (t : TypeId) (n : Nat) (hn : zs.length = n) : Reads (w.alloc (.cells (iv zs).toArray t)) (w.heap.size + 1) 1 (some ⟨w.heap.size, 0, none⟩) n (iv zs) := by
  refine ⟨by simp [iv, hn], fun h => ⟨_, rfl, by simp, fun j u hu => ?_⟩⟩
  have : (⟨w.heap.size, 0, none⟩ : Addr).add j = ⟨w.heap.size, j, none⟩ := by unfold Addr.add; split <;> simp_all
  rw [this, (Blk.new w t (iv zs).toArray).cell j]
  simpa using hu
theorem all_step (zs : List Int) (k : Nat) (hk : k < zs.length) : (zs.drop k).all coB = (coB (zs.getD k 0) && (zs.drop (k + 1)).all coB) := by
  rw [drop_cons zs k hk, List.all_cons]
set_option maxHeartbeats 400000 in
theorem boxgood (A : Option Addr) (n c B : Nat) (zs : List Int) (hn : n ≤ 1000) (w : World) (hr : Reads w B 1 A n (iv zs)) :
    Calls Try.prog 46 #[.slice A n c] w fun e w' => e = .returned (.bool (zs.all coB)) ∧ w = w' := by
  have HL := Lib.hid hr.len
  go_enter Try.func46, Try.ntmps46
  go_wp2
  go_loop [7] (fun i => ∃ (k : Nat), k ≤ n ∧ i = .int .i64 k ∧ Hid (zs.all coB = (zs.drop k).all coB)) (fun i => n - (intOf i).toNat)
  case atStart => exact ⟨0, Nat.zero_le _, rfl, rfl⟩
  case round =>
    obtain ⟨k, hk, rfl, HS⟩ := hrel
    by_cases hlt : k < n
    · obtain ⟨b, off, rfl, hb, hc⟩ := reads_cell hr hlt
      have HT := Lib.hid (all_step zs k (by rw [HL.out]; omega))
      generalize zs.getD k 0 = z at *
      cases hz : coB z
      · go_wp2_with (go_at_call 48; refine (numgood _ _).mono ?_; rintro e w' ⟨rfl, rfl⟩)
        go_ret
        exact ⟨ret_bool' (by rw [HS.out, HT.out, hz]; rfl), rfl⟩
      · go_wp2_with (go_at_call 48; refine (numgood _ _).mono ?_; rintro e w' ⟨rfl, rfl⟩)
        go_round
        case rel => exact ⟨k + 1, by omega, by go_num, HS.out.trans (HT.out.trans (by rw [hz]; rfl))⟩
        case measure => simp [intOf]; omega
    · go_wp2
      go_ret
      exact ⟨ret_bool' (by rw [HS.out, List.drop_of_length_le (by rw [HL.out]; omega)]; rfl), rfl⟩
def ckE (b1 b2 b3 b4 : Int) : Int := if [b1, b2, b3, b4].all coB then (if emB b1 b2 b3 b4 then 3 else 0) else 2
set_option maxHeartbeats 400000 in
theorem check (b1 b2 b3 b4 : Int) (w : World) : Calls Try.prog 21 #[.agg #[.int .i64 b1, .int .i64 b2, .int .i64 b3, .int .i64 b4]] w fun e w' => e = .returned (.int .i64 (ckE b1 b2 b3 b4)) ∧ Below w.heap.size w w' := by
  have hre : Reads ((w.alloc (.cells #[.int .i64 b1, .int .i64 b2, .int .i64 b3, .int .i64 b4] 43)).alloc (.cells #[.int .i64 b1, .int .i64 b2, .int .i64 b3, .int .i64 b4] 3)) (w.heap.size + 1 + 1) 1 (some ⟨w.heap.size + 1, 0, none⟩) 4 (iv [b1, b2, b3, b4]) := by
    have := reads_block (w.alloc (.cells #[.int .i64 b1, .int .i64 b2, .int .i64 b3, .int .i64 b4] 43)) [b1, b2, b3, b4] 3 4 rfl
    simpa [iv] using this
  have HR := Lib.hid hre
  clear hre
  obtain ⟨g, hg⟩ : ∃ g, [b1, b2, b3, b4].all coB = g := ⟨_, rfl⟩
  obtain ⟨m, hm⟩ : ∃ m, emB b1 b2 b3 b4 = m := ⟨_, rfl⟩
  have HG := Lib.hid hg
  have HM := Lib.hid hm
  clear hg hm
  cases g
  · go_enter Try.func21, Try.ntmps21
    go_wp2_with fail
    refine (boxgood _ _ _ _ [b1, b2, b3, b4] (by omega) _ HR.out).mono ?_
    rw [HG.out]
    rintro e w1 ⟨rfl, rfl⟩
    go_wp2_with fail
    go_ret
    exact ⟨ret_int' (by unfold ckE; rw [HG.out]; rfl), (by repeat (first | exact Below.refl _ _ | refine Below.setCell ?_ (by simp <;> omega) _ | refine Below.alloc ?_ (by simp <;> omega) _ | refine Below.trans ?_ (Below.mono (by assumption) (by simp <;> omega))))⟩
  · cases m
    all_goals
      go_enter Try.func21, Try.ntmps21
      go_wp2_with fail
      refine (boxgood _ _ _ _ [b1, b2, b3, b4] (by omega) _ HR.out).mono ?_
      rw [HG.out]
      rintro e w1 ⟨rfl, rfl⟩
      go_wp2_with fail
      refine (empty _ _ _ _ _).mono ?_
      rw [HM.out]
      rintro e w1 ⟨rfl, hb⟩
      obtain ⟨hc, hf⟩ := bcell hb
      go_wp2_with fail
      go_ret
      exact ⟨ret_int' (by unfold ckE; rw [HG.out, HM.out]; rfl), (by repeat (first | exact Below.refl _ _ | refine Below.setCell ?_ (by simp <;> omega) _ | refine Below.alloc ?_ (by simp <;> omega) _ | refine Below.trans ?_ (Below.mono hb (by simp <;> omega))))⟩
set_option maxHeartbeats 1000000 in
theorem refcheck (b1 b2 b3 b4 : Int) (w : World) : Calls Try.prog 22 #[.agg #[.int .i64 b1, .int .i64 b2, .int .i64 b3, .int .i64 b4]] w fun e w' => e = .returned (.int .i64 (ckE b1 b2 b3 b4)) ∧ Below w.heap.size w w' := by
  by_cases c1 : coB b1 = true
  · skip
    by_cases c2 : coB b2 = true
    · skip
      by_cases c3 : coB b3 = true
      · skip
        by_cases c4 : coB b4 = true
        · skip
          by_cases e1 : ¬ b2 < b1
          · skip
            by_cases e2 : ¬ b4 < b3
            · skip
              go_enter Try.func22, Try.ntmps22
              go_wp2_with (go_at_call 40; refine (coord _ _).mono ?_; rintro e w1 ⟨rfl, rfl⟩)
              all_goals (go_ret; exact ⟨ret_int' (by simp [ckE, emB, *] <;> omega), (by repeat (first | exact Below.refl _ _ | refine Below.setCell ?_ (by simp <;> omega) _ | refine Below.alloc ?_ (by simp <;> omega) _ | refine Below.trans ?_ (Below.mono (by assumption) (by simp <;> omega))))⟩)
            · skip
              skip
              go_enter Try.func22, Try.ntmps22
              go_wp2_with (go_at_call 40; refine (coord _ _).mono ?_; rintro e w1 ⟨rfl, rfl⟩)
              all_goals (go_ret; exact ⟨ret_int' (by simp [ckE, emB, *] <;> omega), (by repeat (first | exact Below.refl _ _ | refine Below.setCell ?_ (by simp <;> omega) _ | refine Below.alloc ?_ (by simp <;> omega) _ | refine Below.trans ?_ (Below.mono (by assumption) (by simp <;> omega))))⟩)
          · skip
            skip
            go_enter Try.func22, Try.ntmps22
            go_wp2_with (go_at_call 40; refine (coord _ _).mono ?_; rintro e w1 ⟨rfl, rfl⟩)
            all_goals (go_ret; exact ⟨ret_int' (by simp [ckE, emB, *] <;> omega), (by repeat (first | exact Below.refl _ _ | refine Below.setCell ?_ (by simp <;> omega) _ | refine Below.alloc ?_ (by simp <;> omega) _ | refine Below.trans ?_ (Below.mono (by assumption) (by simp <;> omega))))⟩)
        · have c4' := Bool.eq_false_iff.2 c4
          clear c4
          go_enter Try.func22, Try.ntmps22
          go_wp2_with (go_at_call 40; refine (coord _ _).mono ?_; rintro e w1 ⟨rfl, rfl⟩)
          all_goals (go_ret; exact ⟨ret_int' (by simp [ckE, emB, *] <;> omega), (by repeat (first | exact Below.refl _ _ | refine Below.setCell ?_ (by simp <;> omega) _ | refine Below.alloc ?_ (by simp <;> omega) _ | refine Below.trans ?_ (Below.mono (by assumption) (by simp <;> omega))))⟩)
      · have c3' := Bool.eq_false_iff.2 c3
        clear c3
        go_enter Try.func22, Try.ntmps22
        go_wp2_with (go_at_call 40; refine (coord _ _).mono ?_; rintro e w1 ⟨rfl, rfl⟩)
        all_goals (go_ret; exact ⟨ret_int' (by simp [ckE, emB, *] <;> omega), (by repeat (first | exact Below.refl _ _ | refine Below.setCell ?_ (by simp <;> omega) _ | refine Below.alloc ?_ (by simp <;> omega) _ | refine Below.trans ?_ (Below.mono (by assumption) (by simp <;> omega))))⟩)
    · have c2' := Bool.eq_false_iff.2 c2
      clear c2
      go_enter Try.func22, Try.ntmps22
      go_wp2_with (go_at_call 40; refine (coord _ _).mono ?_; rintro e w1 ⟨rfl, rfl⟩)
      all_goals (go_ret; exact ⟨ret_int' (by simp [ckE, emB, *] <;> omega), (by repeat (first | exact Below.refl _ _ | refine Below.setCell ?_ (by simp <;> omega) _ | refine Below.alloc ?_ (by simp <;> omega) _ | refine Below.trans ?_ (Below.mono (by assumption) (by simp <;> omega))))⟩)
  · have c1' := Bool.eq_false_iff.2 c1
    clear c1
    go_enter Try.func22, Try.ntmps22
    go_wp2_with (go_at_call 40; refine (coord _ _).mono ?_; rintro e w1 ⟨rfl, rfl⟩)
    all_goals (go_ret; exact ⟨ret_int' (by simp [ckE, emB, *] <;> omega), (by repeat (first | exact Below.refl _ _ | refine Below.setCell ?_ (by simp <;> omega) _ | refine Below.alloc ?_ (by simp <;> omega) _ | refine Below.trans ?_ (Below.mono (by assumption) (by simp <;> omega))))⟩)
theorem lives4 (w : World) : Calls Try.prog 28 #[] w fun e w' => e = .returned (.bool true) ∧ Below w.heap.size w w' := by
  have hck : ckE 1 0 0 0 = 3 := by decide
  go_enter Try.func28, Try.ntmps28
  go_wp2_with fail
  refine (meet_yes 0 4 0 4 2 6 4 9 2 4 4 4 (by unfold big; exact Or.inl ⟨by decide, rfl⟩) (by exact Or.inr ⟨by decide, rfl⟩) (by exact Or.inl ⟨by decide, rfl⟩) (by exact Or.inr ⟨by decide, rfl⟩) (by decide) _).mono ?_
  rintro e w1 ⟨rfl, hb⟩
  go_wp2_with fail
  refine (check 1 0 0 0 _).mono ?_
  rw [hck]
  rintro e w2 ⟨rfl, hb2⟩
  go_wp2_with fail
  go_ret
  exact ⟨rfl, ((((Below.refl _ _).trans (hb.mono (by simp))).alloc (by have := hb.size; first | omega | (simp <;> omega)) _).trans (hb2.mono (by have := hb.size; first | omega | (simp <;> omega))))⟩
end Go.Proofs.Ytjfdlamfklhodab
