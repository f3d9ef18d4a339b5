/- Who waits never goes back, and comes nearer with each that is popped. No condition. -/
import Derived.Test.YtmomafhpbbmiaaaRows
import Derived.WalkKit
import Derived.ProofKit
import Derived.OpenShut
import Derived.ChangeOld
import Derived.Below
import Derived.Outline
import Derived.Lib.SmallJoins
import Derived.Test.YtmomafhpbbmiaaaR12
set_option linter.unusedVariables false
namespace Go.Proofs.Ytmomafhpbbmiaaa.ringNearer
open Go.ChangeShapes Go.WideShapes Go.ChangeAt Go.RowKit Go.Joins

theorem own : ownKnob Try.prog.godebug = none := by kernel_rfl
theorem laidOut : laidOutB Try.prog = true := by kernel_rfl

set_option maxRecDepth 100000 in
set_option maxHeartbeats 16000000 in
theorem walk (A0 : Option Addr) (n0 c0 : Nat) (z0 : List Int) (a1 : Int) (w : World) (r0 : Reads w w.heap.size 2 A0 n0 (iv z0)) (o0 : okAll z0) (m0 : n0 ≤ c0 ∧ c0 ≤ maxLen) (w1 : (Lit.int .i64 a1).wf = true) :
    Calls Try.prog 4 #[.slice A0 n0 c0, .int .i64 a1] w fun e w' => e = .returned (.bool true) ∧ Below w.heap.size w w' := by
  have HR := Lib.hid r0
  have i0 : idx [] a1 < 0 := by simp [idx]
  have HI0 := Lib.hid i0
  clear r0 o0 i0
  go_enter Try.func4, Try.ntmps4
  go_wp2_with fail
  refine (ring_new 40 (by omega) _).mono ?_
  rintro e w1 ⟨rfl, hw1⟩
  have G1 : Rg w1 w.heap.size w.heap.size 40 (.slice none 0 0) [] := by rw [hw1]; exact rg_new 40 (by omega) w
  have k1 : Below w.heap.size w w1 := by rw [hw1]; exact (Below.refl _ _).alloc (Nat.le_refl _) _
  have HG1 := Lib.hid G1
  have HB1 := Lib.hid k1
  clear hw1 G1 k1
  go_wp2_with fail
  refine (ring_push _ _ 40 _ [] a1 w1 HG1.out HI0.out (by simp) HB1.out.size).mono ?_
  rintro e w2 ⟨rfl, x2, G2, O2, -⟩
  have RN0 : Hid (RN w w2 a1 0) := Lib.hid ⟨_, _, G2, by simp [idx], by omega, HB1.out.trans (rg_below HG1.out O2)⟩
  clear HG1 HB1 G2 O2
  go_wp2_with fail
  go_loopg [7, 8] 60 (fun q v i wr => ∃ (r : Nat) (last : Int), q = 60 - r ∧ r ≤ 60 ∧ r ≤ n0 ∧ i = .int .i64 r ∧ v = .int .i64 last ∧ Hid (RN w wr a1 last))
  case atStart => exact ⟨0, 0, rfl, by omega, by omega, rfl, rfl, RN0⟩
  case round =>
    obtain ⟨r, last, rfl, hr, hrn, rfl, rfl, hRN⟩ := hrel
    obtain ⟨L, x, hg, hix, hl0, kb⟩ := hRN.out
    have HG := Lib.hid hg
    have HB := Lib.hid kb
    have HI : Hid (idx L a1 = last ∧ 0 ≤ last) := Lib.hid ⟨hix, hl0⟩
    have hl40 : last ≤ 40 := by have h1 := idx_bd L a1; have h2 := hg.len; omega
    clear hRN hg hix kb RN0
    by_cases hlt : r < n0
    · by_cases h60 : r < 60
      · obtain ⟨b, off, rfl, hbB, p0, p1⟩ := reads2 (HR.out.below HB.out) hlt
        generalize z0.getD (r * 2) 0 = s0 at *
        generalize z0.getD (r * 2 + 1) 0 = s1 at *
        by_cases k1 : s0 = 1
        · subst k1
          rcases L with _ | ⟨a, L⟩
          · have := HI.out.1; simp [idx] at this; have := HI.out.2; omega
          · go_wp2_with fail
            refine (ring_pop _ _ _ _ a L wr HG.out).mono ?_
            rintro e w1 ⟨rfl, G1, O1⟩
            have HG1 := Lib.hid G1
            have HB1 := Lib.hid (HB.out.trans (rg_below HG.out O1))
            clear G1 O1
            by_cases hv : a = a1
            · subst hv
              go_wp2_with fail
              refine (lives11 _).mono ?_
              rintro e w9 ⟨rfl, hb9⟩
              go_wp2_with fail
              go_ret
              exact ⟨rfl, (HB1.out).trans (hb9.mono (HB1.out).size)⟩

            · have hv' : (a == a1) = false := by simpa using hv
              have IX : Hid (0 ≤ idx L a1 ∧ idx L a1 = last - 1) := Lib.hid (by
                have h1 := HI.out
                have := idx_tail a L a1 (by omega) hv
                omega)
              clear hv
              have PL := ring_place _ _ _ x L a1 w1 HG1.out
              obtain ⟨ix1, ix2⟩ := IX.out
              rw [if_neg (by omega : ¬ idx L a1 < 0), decide_eq_true (by omega : 0 ≤ idx L a1)] at PL
              obtain ⟨p, hp⟩ : ∃ p, p = idx L a1 := ⟨_, rfl⟩
              rw [← hp] at PL ix1 ix2
              have HPL := Lib.hid PL
              have HP := Lib.hid hp
              obtain rfl : p = last - 1 := ix2
              have hd : decide (last < last - 1) = false := decide_eq_false (by omega)
              have hl9 := (HG1.out).len
              have hb9 := idx_bd L a1
              rw [← HP.out] at hb9
              have sl : IntKind.i64.wrap (last - 1) = last - 1 := IntWalk.i64_in _ (by omega)
              clear PL hp hl9 hb9
              go_wp2_with fail
              refine (HPL.out).mono ?_
              rintro e w5 ⟨rfl, hb5⟩
              have O5 : Only (fun _ => False) w1 w5 := Only.of_below hb5
              have HG5 := Lib.hid ((HG1.out).keep O5 (fun h => h) (fun _ _ h => h))
              have HB5 := Lib.hid ((HB1.out).trans (hb5.mono (HB1.out).size))
              clear hb5 O5
              go_wp2_with fail
              go_roundg (60 - (r + 1))
              case measure => omega
              case rel => exact ⟨r + 1, last - 1, rfl, by omega, by omega, by go_num, rfl, Lib.hid ⟨_, _, HG5.out, HP.out.symm, by omega, HB5.out⟩⟩
        · have k1' : (s0 == 1) = false := by simpa using k1
          clear k1
          by_cases k2 : s0 = 2
          · subst k2
            by_cases hv : s1 = a1
            · subst hv
              go_wp2_with fail
              refine (lives11 _).mono ?_
              rintro e w9 ⟨rfl, hb9⟩
              go_wp2_with fail
              go_ret
              exact ⟨rfl, (HB.out).trans (hb9.mono (HB.out).size)⟩

            · have hv' : (s1 == a1) = false := by simpa using hv
              by_cases hi : idx L s1 < 0
              · have D1 := ring_drop_no _ _ _ _ L s1 wr HG.out hi
                have HD1 := Lib.hid D1
                clear D1 hi
                go_wp2_with fail
                refine (HD1.out).mono ?_
                rintro e w1 ⟨rfl, hb1⟩
                have O1 : Only (fun _ => False) wr w1 := Only.of_below hb1
                have HG1 := Lib.hid (HG.out.keep O1 (fun h => h) (fun _ _ h => h))
                have HB1 := Lib.hid (HB.out.trans (hb1.mono HB.out.size))
                have IX : Hid (0 ≤ idx L a1 ∧ idx L a1 ≤ last) := Lib.hid (by have h1 := HI.out; omega)
                clear hb1 O1
                have PL := ring_place _ _ _ x L a1 w1 HG1.out
                obtain ⟨ix1, ix2⟩ := IX.out
                rw [if_neg (by omega : ¬ idx L a1 < 0), decide_eq_true (by omega : 0 ≤ idx L a1)] at PL
                obtain ⟨p, hp⟩ : ∃ p, p = idx L a1 := ⟨_, rfl⟩
                rw [← hp] at PL ix1 ix2
                have HPL := Lib.hid PL
                have HP := Lib.hid hp
                have hd : decide (last < p) = false := decide_eq_false (by omega)

                have hl9 := (HG1.out).len
                have hb9 := idx_bd L a1
                rw [← HP.out] at hb9
                have sl : IntKind.i64.wrap (last - 1) = last - 1 := IntWalk.i64_in _ (by omega)
                clear PL hp hl9 hb9
                go_wp2_with fail
                refine (HPL.out).mono ?_
                rintro e w5 ⟨rfl, hb5⟩
                have O5 : Only (fun _ => False) w1 w5 := Only.of_below hb5
                have HG5 := Lib.hid ((HG1.out).keep O5 (fun h => h) (fun _ _ h => h))
                have HB5 := Lib.hid ((HB1.out).trans (hb5.mono (HB1.out).size))
                clear hb5 O5
                go_wp2_with fail
                go_roundg (60 - (r + 1))
                case measure => omega
                case rel => exact ⟨r + 1, p, rfl, by omega, by omega, by go_num, rfl, Lib.hid ⟨_, _, HG5.out, HP.out.symm, by omega, HB5.out⟩⟩
              · have D1 := ring_drop _ _ _ _ L s1 wr HG.out (by omega)
                have IX : Hid (0 ≤ idx (L.eraseIdx (idx L s1).toNat) a1 ∧ idx (L.eraseIdx (idx L s1).toNat) a1 ≤ last) := Lib.hid (by
                  have h1 := HI.out
                  have := idx_erase L s1 a1 hv (by omega) (by omega)
                  omega)
                generalize L.eraseIdx (idx L s1).toNat = L' at *
                have HD1 := Lib.hid D1
                clear D1 hi hv
                go_wp2_with fail
                refine (HD1.out).mono ?_
                rintro e w1 ⟨rfl, G1, O1⟩
                have HG1 := Lib.hid G1
                have HB1 := Lib.hid (HB.out.trans (rg_below HG.out O1))
                clear G1 O1
                have PL := ring_place _ _ _ x L' a1 w1 HG1.out
                obtain ⟨ix1, ix2⟩ := IX.out
                rw [if_neg (by omega : ¬ idx L' a1 < 0), decide_eq_true (by omega : 0 ≤ idx L' a1)] at PL
                obtain ⟨p, hp⟩ : ∃ p, p = idx L' a1 := ⟨_, rfl⟩
                rw [← hp] at PL ix1 ix2
                have HPL := Lib.hid PL
                have HP := Lib.hid hp
                have hd : decide (last < p) = false := decide_eq_false (by omega)

                have hl9 := (HG1.out).len
                have hb9 := idx_bd L' a1
                rw [← HP.out] at hb9
                have sl : IntKind.i64.wrap (last - 1) = last - 1 := IntWalk.i64_in _ (by omega)
                clear PL hp hl9 hb9
                go_wp2_with fail
                refine (HPL.out).mono ?_
                rintro e w5 ⟨rfl, hb5⟩
                have O5 : Only (fun _ => False) w1 w5 := Only.of_below hb5
                have HG5 := Lib.hid ((HG1.out).keep O5 (fun h => h) (fun _ _ h => h))
                have HB5 := Lib.hid ((HB1.out).trans (hb5.mono (HB1.out).size))
                clear hb5 O5
                go_wp2_with fail
                go_roundg (60 - (r + 1))
                case measure => omega
                case rel => exact ⟨r + 1, p, rfl, by omega, by omega, by go_num, rfl, Lib.hid ⟨_, _, HG5.out, HP.out.symm, by omega, HB5.out⟩⟩
          · have k2' : (s0 == 2) = false := by simpa using k2
            have hlen := HG.out.len
            by_cases hi : idx L s1 < 0
            · by_cases hm : (L.length : Int) < 40
              · have D1 := ring_push _ _ _ x L s1 wr HG.out hi hm HB.out.size
                have IX : Hid (0 ≤ idx (L ++ [s1]) a1 ∧ idx (L ++ [s1]) a1 ≤ last) := Lib.hid (by
                  have h1 := HI.out
                  have h2 := idx_append L [s1] a1
                  rw [if_pos (by omega)] at h2
                  omega)
                unfold PushP at D1
                generalize L ++ [s1] = L' at *
                have HD1 := Lib.hid D1
                clear D1 hi hm hlen
                go_wp2_with fail
                refine (HD1.out).mono ?_
                rintro e w1 ⟨rfl, x1, G1, O1, -⟩
                have HG1 := Lib.hid G1
                have HB1 := Lib.hid (HB.out.trans (rg_below HG.out O1))
                clear G1 O1
                have PL := ring_place _ _ _ x1 L' a1 w1 HG1.out
                obtain ⟨ix1, ix2⟩ := IX.out
                rw [if_neg (by omega : ¬ idx L' a1 < 0), decide_eq_true (by omega : 0 ≤ idx L' a1)] at PL
                obtain ⟨p, hp⟩ : ∃ p, p = idx L' a1 := ⟨_, rfl⟩
                rw [← hp] at PL ix1 ix2
                have HPL := Lib.hid PL
                have HP := Lib.hid hp
                have hd : decide (last < p) = false := decide_eq_false (by omega)

                have hl9 := (HG1.out).len
                have hb9 := idx_bd L' a1
                rw [← HP.out] at hb9
                have sl : IntKind.i64.wrap (last - 1) = last - 1 := IntWalk.i64_in _ (by omega)
                clear PL hp hl9 hb9
                go_wp2_with fail
                refine (HPL.out).mono ?_
                rintro e w5 ⟨rfl, hb5⟩
                have O5 : Only (fun _ => False) w1 w5 := Only.of_below hb5
                have HG5 := Lib.hid ((HG1.out).keep O5 (fun h => h) (fun _ _ h => h))
                have HB5 := Lib.hid ((HB1.out).trans (hb5.mono (HB1.out).size))
                clear hb5 O5
                go_wp2_with fail
                go_roundg (60 - (r + 1))
                case measure => omega
                case rel => exact ⟨r + 1, p, rfl, by omega, by omega, by go_num, rfl, Lib.hid ⟨_, _, HG5.out, HP.out.symm, by omega, HB5.out⟩⟩
              · have D1 := ring_push_full _ _ _ x L s1 wr HG.out hi (by omega)
                have HD1 := Lib.hid D1
                clear D1 hi hm hlen
                go_wp2_with fail
                refine (HD1.out).mono ?_
                rintro e w1 ⟨rfl, hb1⟩
                have O1 : Only (fun _ => False) wr w1 := Only.of_below hb1
                have HG1 := Lib.hid (HG.out.keep O1 (fun h => h) (fun _ _ h => h))
                have HB1 := Lib.hid (HB.out.trans (hb1.mono HB.out.size))
                have IX : Hid (0 ≤ idx L a1 ∧ idx L a1 ≤ last) := Lib.hid (by have h1 := HI.out; omega)
                clear hb1 O1
                have PL := ring_place _ _ _ x L a1 w1 HG1.out
                obtain ⟨ix1, ix2⟩ := IX.out
                rw [if_neg (by omega : ¬ idx L a1 < 0), decide_eq_true (by omega : 0 ≤ idx L a1)] at PL
                obtain ⟨p, hp⟩ : ∃ p, p = idx L a1 := ⟨_, rfl⟩
                rw [← hp] at PL ix1 ix2
                have HPL := Lib.hid PL
                have HP := Lib.hid hp
                have hd : decide (last < p) = false := decide_eq_false (by omega)

                have hl9 := (HG1.out).len
                have hb9 := idx_bd L a1
                rw [← HP.out] at hb9
                have sl : IntKind.i64.wrap (last - 1) = last - 1 := IntWalk.i64_in _ (by omega)
                clear PL hp hl9 hb9
                go_wp2_with fail
                refine (HPL.out).mono ?_
                rintro e w5 ⟨rfl, hb5⟩
                have O5 : Only (fun _ => False) w1 w5 := Only.of_below hb5
                have HG5 := Lib.hid ((HG1.out).keep O5 (fun h => h) (fun _ _ h => h))
                have HB5 := Lib.hid ((HB1.out).trans (hb5.mono (HB1.out).size))
                clear hb5 O5
                go_wp2_with fail
                go_roundg (60 - (r + 1))
                case measure => omega
                case rel => exact ⟨r + 1, p, rfl, by omega, by omega, by go_num, rfl, Lib.hid ⟨_, _, HG5.out, HP.out.symm, by omega, HB5.out⟩⟩
            · have D1 := ring_push_dup _ _ _ x L s1 wr HG.out (by omega)
              have HD1 := Lib.hid D1
              clear D1 hi hlen
              go_wp2_with fail
              refine (HD1.out).mono ?_
              rintro e w1 ⟨rfl, hb1⟩
              have O1 : Only (fun _ => False) wr w1 := Only.of_below hb1
              have HG1 := Lib.hid (HG.out.keep O1 (fun h => h) (fun _ _ h => h))
              have HB1 := Lib.hid (HB.out.trans (hb1.mono HB.out.size))
              have IX : Hid (0 ≤ idx L a1 ∧ idx L a1 ≤ last) := Lib.hid (by have h1 := HI.out; omega)
              clear hb1 O1
              have PL := ring_place _ _ _ x L a1 w1 HG1.out
              obtain ⟨ix1, ix2⟩ := IX.out
              rw [if_neg (by omega : ¬ idx L a1 < 0), decide_eq_true (by omega : 0 ≤ idx L a1)] at PL
              obtain ⟨p, hp⟩ : ∃ p, p = idx L a1 := ⟨_, rfl⟩
              rw [← hp] at PL ix1 ix2
              have HPL := Lib.hid PL
              have HP := Lib.hid hp
              have hd : decide (last < p) = false := decide_eq_false (by omega)

              have hl9 := (HG1.out).len
              have hb9 := idx_bd L a1
              rw [← HP.out] at hb9
              have sl : IntKind.i64.wrap (last - 1) = last - 1 := IntWalk.i64_in _ (by omega)
              clear PL hp hl9 hb9
              go_wp2_with fail
              refine (HPL.out).mono ?_
              rintro e w5 ⟨rfl, hb5⟩
              have O5 : Only (fun _ => False) w1 w5 := Only.of_below hb5
              have HG5 := Lib.hid ((HG1.out).keep O5 (fun h => h) (fun _ _ h => h))
              have HB5 := Lib.hid ((HB1.out).trans (hb5.mono (HB1.out).size))
              clear hb5 O5
              go_wp2_with fail
              go_roundg (60 - (r + 1))
              case measure => omega
              case rel => exact ⟨r + 1, p, rfl, by omega, by omega, by go_num, rfl, Lib.hid ⟨_, _, HG5.out, HP.out.symm, by omega, HB5.out⟩⟩
      · obtain rfl : r = 60 := by omega
        go_wp2_with fail
        refine (lives11 _).mono ?_
        rintro e w9 ⟨rfl, hb9⟩
        go_wp2_with fail
        go_ret
        exact ⟨rfl, (HB.out).trans (hb9.mono (HB.out).size)⟩

    · obtain rfl : r = n0 := by omega
      go_wp2_with fail
      refine (lives11 _).mono ?_
      rintro e w9 ⟨rfl, hb9⟩
      go_wp2_with fail
      go_ret
      exact ⟨rfl, (HB.out).trans (hb9.mono (HB.out).size)⟩

set_option maxRecDepth 100000 in
theorem lifted (os : Os) (started : os.Started) (H : Type) (enc : TypeId × Value → H) :
    ReturnsInHanded {} Try.checked os 4 .any (Rows.ringNearerSpec.pre6 enc Try.prog Try.f4 Rows.ringNearerRow.domain false) (Rows.ringNearerSpec.post enc Try.prog Try.f4 false true false false) := by
  refine returnsInHanded_of_change (C := Try.checked) own started (by kernel_rfl) Try.func4
    (ChangeSpec.witness6 (enc := enc) (C := Try.checked) false ⟨#[], #[.slice none 0 0, .int .i64 0], []⟩ 8 (by kernel_rfl) (by kernel_rfl) (by kernel_rfl) (by kernel_rfl)) ?_
  intro W base args ds gs before hval0 hW hcnd _
  have hval : ∀ (j : Nat) t v, Try.f4.params[j]? = some t → args[j]? = some v → Value.okWide Try.prog W .any base t v := hval0
  have hW' := hW
  obtain ⟨p, q, hA0, hV, rfl, hfz, hnd⟩ := hW
  have hA : DataW.TrodAll enc Try.prog W 0 (fun _ => true) true Try.f4.params.toList args.toList ds p := hA0
  rw [Try.params4] at hA hval
  obtain ⟨v0, vs0, d0, ds0, p0, q0, hargs, rfl, rfl, h0, rr0⟩ := trodAll_cons hA
  obtain ⟨v1, vs1, d1, ds1, p1, q1, rfl, rfl, rfl, h1, rr1⟩ := trodAll_cons rr0
  obtain ⟨rfl, rfl, rfl⟩ := trodAll_nil rr1
  obtain rfl : args = #[v0, v1] := by cases args; simp_all
  obtain ⟨rfl, rfl⟩ := trodVars_none hV
  have k0 := h0
  have lt0 : ∀ x ∈ p0, x.block < W.heap.size := by obtain ⟨m, hm⟩ := k0; exact DataW.trod_lt m _ _ _ hm
  obtain ⟨A0, n0, c0, rfl⟩ := okWide_slice Try.underlying22 (hval 0 22 v0 rfl rfl)
  obtain ⟨z0, r0, o0, m0⟩ := rows_open (F := 2) Try.underlying22 Try.underlying30 (by kernel_rfl) (by kernel_rfl) rfl (by decide) (by intro j f hj; match j, hj with | 0, hj => cases hj; exact Try.underlying3 | 1, hj => cases hj; exact Try.underlying3 | j + 2, hj => simp at hj) h0
  have k1 := h1
  have lt1 : ∀ x ∈ p1, x.block < W.heap.size := by obtain ⟨m, hm⟩ := k1; exact DataW.trod_lt m _ _ _ hm
  obtain ⟨a1, rfl, _, _, w1⟩ := open_int Try.underlying3 (hval 1 3 v1 rfl rfl) h1
  clear hA0 hval0
  refine (walk A0 n0 c0 z0 a1 W r0 o0 m0 w1).mono fun e W' ⟨he, bel⟩ => ?_
  subst he
  exact ⟨_, rfl, _, _, _, [], _, [], hW', trodAll_mk1 (shut_bool Try.underlying4 _), (trodAll_cons_mk (Below.trod laidOut (by kernel_rfl) (of_decide_eq_true (by kernel_rfl)) k0 bel lt0) (trodAll_cons_mk (Below.trod laidOut (by kernel_rfl) (of_decide_eq_true (by kernel_rfl)) k1 bel lt1) trodAll_mk0)), rfl, bel.frame _, fun h => by cases h⟩

theorem over : Rows.ringNearerRow.holds Try.pinned (OpenSpec.ofChange Rows.ringNearerSpec) :=
  OpenClaim.holds_of_wide 4 Try.f4 rfl rfl rfl rfl rfl rfl rfl ⟨rfl, rfl, rfl, rfl, rfl⟩ rfl rfl rfl rfl rfl (by kernel_rfl) Try.func4 (by kernel_rfl)
    (of_decide_eq_true (by kernel_rfl)) (by unfold Func.isWrapper; first | (rw [if_pos (by decide +kernel)]; kernel_rfl) | (rw [if_neg (by decide +kernel)]; exact ⟨rfl, rfl⟩))
    (fun os started H enc _ => lifted os started H enc)

theorem proved : Rows.RingNearerSaid := over
#print axioms proved
end Go.Proofs.Ytmomafhpbbmiaaa.ringNearer
