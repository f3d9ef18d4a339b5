/- Any numbers together are what the document adds them to, or none. -/
import Derived.Test.YtjfdlamfklhodaaRows
import Derived.WalkKit
import Derived.ProofKit
import Derived.OpenShut
import Derived.ChangeOld
import Derived.Below
import Derived.Outline
import Derived.Lib.SmallJoins
import Derived.Test.YtjfdlamfklhodaaA4
import Derived.Test.YtjfdlamfklhodaaA3
set_option linter.unusedVariables false
namespace Go.Proofs.Ytjfdlamfklhodaa.numTogether
open Go.ChangeShapes Go.WideShapes Go.ChangeAt Go.RowKit Go.Joins

theorem own : ownKnob Try.prog.godebug = none := by kernel_rfl
theorem laidOut : laidOutB Try.prog = true := by kernel_rfl
theorem int_info : (Try.prog.info? 3).map (fun i => (i.zero, i.size, i.bytes)) = some (some (.int .i64 0), 1, 8) := by kernel_rfl

set_option maxHeartbeats 1000000 in
theorem walk (A0 : Option Addr) (n0 c0 : Nat) (z0 : List Int) (w : World) (r0 : Reads w w.heap.size 1 A0 n0 (iv z0)) (o0 : okAll z0) (m0 : n0 ≤ c0 ∧ c0 ≤ maxLen) :
    Calls Try.prog 5 #[.slice A0 n0 c0] w fun e w' => e = .returned (.bool true) ∧ Below w.heap.size w w' := by
  obtain ⟨i0, hi0, hz0, hz1, hz2⟩ := info_parts int_info
  obtain ⟨m1, m2⟩ := m0
  unfold maxLen at m2
  by_cases h60 : 60 < n0
  · have HO := Lib.hid (okAll_take o0 60)
    clear o0
    have hr' := (r0.take 60 (by omega)).alloc (Nat.le_refl _) (.cells #[] 3)
    have hlz : (z0.take 60).length = 60 := by have := (r0.take 60 (by omega)).len; omega
    have HL := Lib.hid hlz
    clear hlz
    go_enter Try.func5, Try.ntmps5
    go_wp2_with (first
      | (at_builtin
         refine wpList_append_any _ rfl (.tmp 14) (.tmp 15) _ rfl w.heap.size 3 i0 _ 1 8 Try.underlying27 hi0 hz0 hz1 hz2 rfl (by omega) (.slice (some ⟨w.heap.size, 0, none⟩) 0 0) 0 [] rfl
           (own_new w 3 1) w.heap.size A0 60 c0 (iv (z0.take 60)) rfl hr' iv_one (by simp only [maxLen]; omega) (by omega) (by simp) ?_
         intro v1 w1 hown1 hg1 hat1)
      | fail)
    have hbel : Below w.heap.size w w1 := ((Below.refl _ _).alloc (Nat.le_refl _) _).grown hg1 (by simp) (by simp [Value.ownBlock])
    have hrl : Reads w1 w.heap.size 1 A0 60 (iv (z0.take 60)) := hr'.grown hg1 (by simp) (by simp [Value.ownBlock])
    simp only [Nat.zero_add, List.nil_append] at hown1
    obtain ⟨A1, c1, rfl, hr1⟩ := own_slice hown1
    clear hown1 hg1 hat1
    have hsum := sum_any A1 60 c1 w1.heap.size (z0.take 60) (by omega) w1 hr1 HO.out
    have HS := Lib.hid hsum
    clear hsum
    refine HS.out.mono ?_
    rintro e w' ⟨rfl, rfl⟩
    go_wp2_with fail
    obtain ⟨S, hS⟩ : ∃ S, S = sumGo 0 (z0.take 60) := ⟨_, rfl⟩
    rw [← hS]
    have HSS := Lib.hid hS
    clear hS
    go_loop [5, 6, 7] (fun x is i => ∃ (k : Nat) (sv : Int) (b : Bool), k ≤ 60 ∧ i = .int .i64 k ∧ x = .int .i64 sv ∧ is = .bool b ∧ -9223372036854775808 ≤ sv ∧ sv ≤ 9223372036854775807 ∧ Hid (sumGo 0 (z0.take 60) = if b then sumGo sv ((z0.take 60).drop k) else none) ∧ (b = false → sv = 0)) (fun _ _ i => 60 - (intOf i).toNat)
    case atStart => exact ⟨0, 0, true, Nat.zero_le _, rfl, rfl, rfl, by omega, by omega, rfl, by simp⟩
    case round =>
      obtain ⟨k, sv, b, hk, rfl, rfl, rfl, s0, s1, HG, hb0⟩ := hrel
      cases b
      · obtain rfl := hb0 rfl
        have hnone : S = none := HSS.out.trans (HG.out.trans (if_neg (by simp)))
        subst hnone
        go_wp2_with (go_at_call 19; refine (lives1 _).mono ?_; rintro e w' ⟨rfl, rfl⟩)
        all_goals (go_ret; exact ⟨rfl, hbel⟩)
      · by_cases hlt : k < 60
        · obtain ⟨b, off, rfl, hb, hc⟩ := reads_cell hrl hlt
          obtain ⟨y0, y1⟩ := okAll_get HO.out k (by rw [HL.out]; exact hlt)
          have hst := sumGo_step sv (z0.take 60) k (by rw [HL.out]; exact hlt)
          have HT := Lib.hid hst
          clear hst
          generalize (z0.take 60).getD k 0 = y at *
          go_wp2_with (go_at_call 16; refine (refadd_any _ _ s0 s1 y0 y1 _).mono ?_; rintro e w' ⟨rfl, rfl⟩)
          go_round
          case rel =>
            by_cases hi : -9223372036854775808 ≤ sv + y ∧ sv + y ≤ 9223372036854775807
            · obtain ⟨i1, i2⟩ := inR_of hi.1 hi.2
              exact ⟨k + 1, sv + y, true, by omega, by go_num, by rw [i2], by rw [i1], by omega, by omega, HG.out.trans (HT.out.trans (if_pos i1)), by simp⟩
            · obtain ⟨i1, i2⟩ := inR_not hi
              exact ⟨k + 1, 0, false, by omega, by go_num, by rw [i2], by rw [i1], by omega, by omega, HG.out.trans (HT.out.trans (if_neg (by rw [i1]; simp))), by simp⟩
          case measure => simp [intOf]; omega
        · have hsome : S = some sv := by
            refine HSS.out.trans (HG.out.trans ((if_pos rfl).trans ?_))
            rw [List.drop_of_length_le (by rw [HL.out]; omega)]; rfl
          subst hsome
          go_wp2_with (go_at_call 19; refine (lives1 _).mono ?_; rintro e w' ⟨rfl, rfl⟩)
          go_ret
          exact ⟨rfl, hbel⟩
  · have h61 : (n0 : Int) ≤ 60 := by omega
    have HO := Lib.hid o0
    clear o0
    have hr' := (r0).alloc (Nat.le_refl _) (.cells #[] 3)
    have hlz : (z0).length = n0 := by have := (r0).len; omega
    have HL := Lib.hid hlz
    clear hlz
    go_enter Try.func5, Try.ntmps5
    go_wp2_with (first
      | (at_builtin
         refine wpList_append_any _ rfl (.tmp 14) (.tmp 15) _ rfl w.heap.size 3 i0 _ 1 8 Try.underlying27 hi0 hz0 hz1 hz2 rfl (by omega) (.slice (some ⟨w.heap.size, 0, none⟩) 0 0) 0 [] rfl
           (own_new w 3 1) w.heap.size A0 n0 c0 (iv (z0)) rfl hr' iv_one (by simp only [maxLen]; omega) (by omega) (by simp) ?_
         intro v1 w1 hown1 hg1 hat1)
      | fail)
    have hbel : Below w.heap.size w w1 := ((Below.refl _ _).alloc (Nat.le_refl _) _).grown hg1 (by simp) (by simp [Value.ownBlock])
    have hrl : Reads w1 w.heap.size 1 A0 n0 (iv (z0)) := hr'.grown hg1 (by simp) (by simp [Value.ownBlock])
    simp only [Nat.zero_add, List.nil_append] at hown1
    obtain ⟨A1, c1, rfl, hr1⟩ := own_slice hown1
    clear hown1 hg1 hat1
    have hsum := sum_any A1 n0 c1 w1.heap.size (z0) (by omega) w1 hr1 HO.out
    have HS := Lib.hid hsum
    clear hsum
    refine HS.out.mono ?_
    rintro e w' ⟨rfl, rfl⟩
    go_wp2_with fail
    obtain ⟨S, hS⟩ : ∃ S, S = sumGo 0 (z0) := ⟨_, rfl⟩
    rw [← hS]
    have HSS := Lib.hid hS
    clear hS
    go_loop [5, 6, 7] (fun x is i => ∃ (k : Nat) (sv : Int) (b : Bool), k ≤ n0 ∧ i = .int .i64 k ∧ x = .int .i64 sv ∧ is = .bool b ∧ -9223372036854775808 ≤ sv ∧ sv ≤ 9223372036854775807 ∧ Hid (sumGo 0 (z0) = if b then sumGo sv ((z0).drop k) else none) ∧ (b = false → sv = 0)) (fun _ _ i => n0 - (intOf i).toNat)
    case atStart => exact ⟨0, 0, true, Nat.zero_le _, rfl, rfl, rfl, by omega, by omega, rfl, by simp⟩
    case round =>
      obtain ⟨k, sv, b, hk, rfl, rfl, rfl, s0, s1, HG, hb0⟩ := hrel
      cases b
      · obtain rfl := hb0 rfl
        have hnone : S = none := HSS.out.trans (HG.out.trans (if_neg (by simp)))
        subst hnone
        go_wp2_with (go_at_call 19; refine (lives1 _).mono ?_; rintro e w' ⟨rfl, rfl⟩)
        all_goals (go_ret; exact ⟨rfl, hbel⟩)
      · by_cases hlt : k < n0
        · obtain ⟨b, off, rfl, hb, hc⟩ := reads_cell hrl hlt
          obtain ⟨y0, y1⟩ := okAll_get HO.out k (by rw [HL.out]; exact hlt)
          have hst := sumGo_step sv (z0) k (by rw [HL.out]; exact hlt)
          have HT := Lib.hid hst
          clear hst
          generalize (z0).getD k 0 = y at *
          go_wp2_with (go_at_call 16; refine (refadd_any _ _ s0 s1 y0 y1 _).mono ?_; rintro e w' ⟨rfl, rfl⟩)
          go_round
          case rel =>
            by_cases hi : -9223372036854775808 ≤ sv + y ∧ sv + y ≤ 9223372036854775807
            · obtain ⟨i1, i2⟩ := inR_of hi.1 hi.2
              exact ⟨k + 1, sv + y, true, by omega, by go_num, by rw [i2], by rw [i1], by omega, by omega, HG.out.trans (HT.out.trans (if_pos i1)), by simp⟩
            · obtain ⟨i1, i2⟩ := inR_not hi
              exact ⟨k + 1, 0, false, by omega, by go_num, by rw [i2], by rw [i1], by omega, by omega, HG.out.trans (HT.out.trans (if_neg (by rw [i1]; simp))), by simp⟩
          case measure => simp [intOf]; omega
        · have hsome : S = some sv := by
            refine HSS.out.trans (HG.out.trans ((if_pos rfl).trans ?_))
            rw [List.drop_of_length_le (by rw [HL.out]; omega)]; rfl
          subst hsome
          go_wp2_with (go_at_call 19; refine (lives1 _).mono ?_; rintro e w' ⟨rfl, rfl⟩)
          go_ret
          exact ⟨rfl, hbel⟩

set_option maxRecDepth 100000 in
theorem lifted (os : Os) (started : os.Started) (H : Type) (enc : TypeId × Value → H) :
    ReturnsInHanded {} Try.checked os 5 .any (Rows.numTogetherSpec.pre6 enc Try.prog Try.f5 Rows.numTogetherRow.domain false) (Rows.numTogetherSpec.post enc Try.prog Try.f5 false true false false) := by
  refine returnsInHanded_of_change (C := Try.checked) own started (by kernel_rfl) Try.func5
    (ChangeSpec.witness6 (enc := enc) (C := Try.checked) false ⟨#[], #[.slice none 0 0], []⟩ 8 (by kernel_rfl) (by kernel_rfl) (by kernel_rfl) (by kernel_rfl)) ?_
  intro W base args ds gs before hval0 hW hcnd _
  have hval : ∀ (j : Nat) t v, Try.f5.params[j]? = some t → args[j]? = some v → Value.okWide Try.prog W .any base t v := hval0
  have hW' := hW
  obtain ⟨p, q, hA0, hV, rfl, hfz, hnd⟩ := hW
  have hA : DataW.TrodAll enc Try.prog W 0 (fun _ => true) true Try.f5.params.toList args.toList ds p := hA0
  rw [Try.params5] at hA hval
  obtain ⟨v0, vs0, d0, ds0, p0, q0, hargs, rfl, rfl, h0, rr0⟩ := trodAll_cons hA
  obtain ⟨rfl, rfl, rfl⟩ := trodAll_nil rr0
  obtain rfl : args = #[v0] := by cases args; simp_all
  obtain ⟨rfl, rfl⟩ := trodVars_none hV
  have k0 := h0
  have lt0 : ∀ x ∈ p0, x.block < W.heap.size := by obtain ⟨m, hm⟩ := k0; exact DataW.trod_lt m _ _ _ hm
  obtain ⟨A0, n0, c0, rfl⟩ := okWide_slice Try.underlying27 (hval 0 27 v0 rfl rfl)
  obtain ⟨z0, r0, o0, m0⟩ := ints_open Try.underlying27 Try.underlying3 (by kernel_rfl) h0
  clear hA0 hval0
  refine (walk A0 n0 c0 z0 W r0 o0 m0).mono fun e W' ⟨he, bel⟩ => ?_
  subst he
  exact ⟨_, rfl, _, _, _, [], _, [], hW', trodAll_mk1 (shut_bool Try.underlying4 _), (trodAll_cons_mk (Below.trod laidOut (by kernel_rfl) (of_decide_eq_true (by kernel_rfl)) k0 bel lt0) trodAll_mk0), rfl, bel.frame _, fun h => by cases h⟩

theorem over : Rows.numTogetherRow.holds Try.pinned (OpenSpec.ofChange Rows.numTogetherSpec) :=
  OpenClaim.holds_of_wide 5 Try.f5 rfl rfl rfl rfl rfl rfl rfl ⟨rfl, rfl, rfl, rfl, rfl⟩ rfl rfl rfl rfl rfl (by kernel_rfl) Try.func5 (by kernel_rfl)
    (of_decide_eq_true (by kernel_rfl)) (by unfold Func.isWrapper; first | (rw [if_pos (by decide +kernel)]; kernel_rfl) | (rw [if_neg (by decide +kernel)]; exact ⟨rfl, rfl⟩))
    (fun os started H enc _ => lifted os started H enc)

theorem proved : Rows.NumTogetherSaid := over
#print axioms proved
end Go.Proofs.Ytjfdlamfklhodaa.numTogether
