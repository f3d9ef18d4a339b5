/- Which of any two numbers of 128 bits is greater, and the sign of any, is as the document says. No condition. -/
import Derived.Test.YtjfdlamfklhodaaRows
import Derived.WalkKit
import Derived.ProofKit
import Derived.OpenShut
import Derived.ChangeOld
import Derived.Below
import Derived.Outline
import Derived.Lib.SmallJoins
import Derived.Test.YtjfdlamfklhodaaF3
import Derived.Test.YtjfdlamfklhodaaG
import Derived.Test.YtjfdlamfklhodaaC4
set_option linter.unusedVariables false
namespace Go.Proofs.Ytjfdlamfklhodaa.wideOrders
open Go.ChangeShapes Go.WideShapes Go.ChangeAt Go.RowKit Go.Joins

theorem own : ownKnob Try.prog.godebug = none := by kernel_rfl
theorem laidOut : laidOutB Try.prog = true := by kernel_rfl
theorem cmpW_neg (h1 l1 h2 l2 : Int) : IntKind.i64.wrap (-cmpW h1 l1 h2 l2) = cmpW h2 l2 h1 l1 := by
  unfold cmpW
  by_cases c1 : h1 < h2
  · rw [if_pos c1, if_neg (by omega), if_pos c1]; rfl
  · by_cases c2 : h2 < h1
    · rw [if_neg c1, if_pos c2, if_pos c2]; rfl
    · by_cases c3 : l1 < l2
      · rw [if_neg c1, if_neg c2, if_pos c3, if_neg c2, if_neg c1, if_neg (by omega), if_pos c3]; rfl
      · by_cases c4 : l2 < l1
        · rw [if_neg c1, if_neg c2, if_neg c3, if_pos c4, if_neg c2, if_neg c1, if_pos c4]; rfl
        · rw [if_neg c1, if_neg c2, if_neg c3, if_neg c4, if_neg c2, if_neg c1, if_neg c4, if_neg c3]; rfl

set_option maxHeartbeats 16000000 in
theorem walk (a0_0 a0_1 : Int) (a1_0 a1_1 : Int) (w : World) (w0_0 : (Lit.int .i64 a0_0).wf = true) (w0_1 : (Lit.int .u64 a0_1).wf = true) (w1_0 : (Lit.int .i64 a1_0).wf = true) (w1_1 : (Lit.int .u64 a1_1).wf = true) :
    Calls Try.prog 10 #[.agg #[.int .i64 a0_0, .int .u64 a0_1], .agg #[.int .i64 a1_0, .int .u64 a1_1]] w fun e w' => e = .returned (.bool true) ∧ Below w.heap.size w w' := by
  obtain ⟨p0, p1⟩ := bounds_i64 w0_0
  obtain ⟨q0, q1⟩ := bounds_u64 w0_1
  obtain ⟨r0, r1⟩ := bounds_i64 w1_0
  obtain ⟨s0, s1⟩ := bounds_u64 w1_1
  have C1 : ∀ w : World, Calls Try.prog 40 #[.agg #[.int .i64 a0_0, .int .u64 a0_1], .agg #[.int .i64 a1_0, .int .u64 a1_1]] w fun e w' => e = .returned (.int .i64 (cmpW a0_0 a0_1 a1_0 a1_1)) ∧ Below w.heap.size w w' := fun w => wcmp _ _ _ _ w
  have C2 : ∀ w : World, Calls Try.prog 40 #[.agg #[.int .i64 a1_0, .int .u64 a1_1], .agg #[.int .i64 a0_0, .int .u64 a0_1]] w fun e w' => e = .returned (.int .i64 (cmpW a1_0 a1_1 a0_0 a0_1)) ∧ Below w.heap.size w w' := fun w => wcmp _ _ _ _ w
  have S1 : ∀ w : World, Calls Try.prog 42 #[.agg #[.int .i64 a0_0, .int .u64 a0_1]] w fun e w' => e = .returned (.int .i64 (cmpW a0_0 a0_1 0 0)) ∧ Below w.heap.size w w' := fun w => wsign _ _ w
  have O1 : ∀ w : World, Calls Try.prog 38 #[.agg #[.int .i64 a0_0, .int .u64 a0_1]] w fun e w' => e = .returned (.agg #[.int .u64 (a0_1 % 65536), .int .u64 ((a0_1 / 65536) % 65536), .int .u64 (((a0_1 / 65536) / 65536) % 65536), .int .u64 ((((a0_1 / 65536) / 65536) / 65536) % 65536), .int .u64 ((uH a0_0) % 65536), .int .u64 (((uH a0_0) / 65536) % 65536), .int .u64 ((((uH a0_0) / 65536) / 65536) % 65536), .int .u64 (((((uH a0_0) / 65536) / 65536) / 65536) % 65536), .int .u64 (sH a0_0)]) ∧ Below w.heap.size w w' := fun w => rof_any _ _ p0 p1 q0 (by omega) w
  have O2 : ∀ w : World, Calls Try.prog 38 #[.agg #[.int .i64 a1_0, .int .u64 a1_1]] w fun e w' => e = .returned (.agg #[.int .u64 (a1_1 % 65536), .int .u64 ((a1_1 / 65536) % 65536), .int .u64 (((a1_1 / 65536) / 65536) % 65536), .int .u64 ((((a1_1 / 65536) / 65536) / 65536) % 65536), .int .u64 ((uH a1_0) % 65536), .int .u64 (((uH a1_0) / 65536) % 65536), .int .u64 ((((uH a1_0) / 65536) / 65536) % 65536), .int .u64 (((((uH a1_0) / 65536) / 65536) / 65536) % 65536), .int .u64 (sH a1_0)]) ∧ Below w.heap.size w w' := fun w => rof_any _ _ r0 r1 s0 (by omega) w
  have R1 : ∀ w : World, Calls Try.prog 41 #[.agg #[.int .u64 (a0_1 % 65536), .int .u64 ((a0_1 / 65536) % 65536), .int .u64 (((a0_1 / 65536) / 65536) % 65536), .int .u64 ((((a0_1 / 65536) / 65536) / 65536) % 65536), .int .u64 ((uH a0_0) % 65536), .int .u64 (((uH a0_0) / 65536) % 65536), .int .u64 ((((uH a0_0) / 65536) / 65536) % 65536), .int .u64 (((((uH a0_0) / 65536) / 65536) / 65536) % 65536), .int .u64 (sH a0_0)], .agg #[.int .u64 (a1_1 % 65536), .int .u64 ((a1_1 / 65536) % 65536), .int .u64 (((a1_1 / 65536) / 65536) % 65536), .int .u64 ((((a1_1 / 65536) / 65536) / 65536) % 65536), .int .u64 ((uH a1_0) % 65536), .int .u64 (((uH a1_0) / 65536) % 65536), .int .u64 ((((uH a1_0) / 65536) / 65536) % 65536), .int .u64 (((((uH a1_0) / 65536) / 65536) / 65536) % 65536), .int .u64 (sH a1_0)]] w fun e w' => e = .returned (.int .i64 (cmpW a0_0 a0_1 a1_0 a1_1)) ∧ Below w.heap.size w w' := fun w => rcmp _ _ _ _ p0 p1 q0 (by omega) r0 r1 s0 (by omega) w
  have R2 : ∀ w : World, Calls Try.prog 41 #[.agg #[.int .u64 (a0_1 % 65536), .int .u64 ((a0_1 / 65536) % 65536), .int .u64 (((a0_1 / 65536) / 65536) % 65536), .int .u64 ((((a0_1 / 65536) / 65536) / 65536) % 65536), .int .u64 ((uH a0_0) % 65536), .int .u64 (((uH a0_0) / 65536) % 65536), .int .u64 ((((uH a0_0) / 65536) / 65536) % 65536), .int .u64 (((((uH a0_0) / 65536) / 65536) / 65536) % 65536), .int .u64 (sH a0_0)], .agg #[.int .u64 0, .int .u64 0, .int .u64 0, .int .u64 0, .int .u64 0, .int .u64 0, .int .u64 0, .int .u64 0, .int .u64 0]] w fun e w' => e = .returned (.int .i64 (cmpW a0_0 a0_1 0 0)) ∧ Below w.heap.size w w' := fun w => rcmp _ _ 0 0 p0 p1 q0 (by omega) (by omega) (by omega) (by omega) (by omega) w
  have hn : IntKind.i64.wrap (-cmpW a0_0 a0_1 a1_0 a1_1) = cmpW a1_0 a1_1 a0_0 a0_1 := cmpW_neg _ _ _ _
  generalize cmpW a0_0 a0_1 a1_0 a1_1 = c at *
  generalize cmpW a1_0 a1_1 a0_0 a0_1 = c2 at *
  generalize cmpW a0_0 a0_1 0 0 = s at *
  generalize (a0_1 % 65536) = d0 at O1 R1 R2
  generalize ((a0_1 / 65536) % 65536) = d1 at O1 R1 R2
  generalize (((a0_1 / 65536) / 65536) % 65536) = d2 at O1 R1 R2
  generalize ((((a0_1 / 65536) / 65536) / 65536) % 65536) = d3 at O1 R1 R2
  generalize ((uH a0_0) % 65536) = d4 at O1 R1 R2
  generalize (((uH a0_0) / 65536) % 65536) = d5 at O1 R1 R2
  generalize ((((uH a0_0) / 65536) / 65536) % 65536) = d6 at O1 R1 R2
  generalize (((((uH a0_0) / 65536) / 65536) / 65536) % 65536) = d7 at O1 R1 R2
  generalize (sH a0_0) = d8 at O1 R1 R2
  generalize (a1_1 % 65536) = e0 at O2 R1
  generalize ((a1_1 / 65536) % 65536) = e1 at O2 R1
  generalize (((a1_1 / 65536) / 65536) % 65536) = e2 at O2 R1
  generalize ((((a1_1 / 65536) / 65536) / 65536) % 65536) = e3 at O2 R1
  generalize ((uH a1_0) % 65536) = e4 at O2 R1
  generalize (((uH a1_0) / 65536) % 65536) = e5 at O2 R1
  generalize ((((uH a1_0) / 65536) / 65536) % 65536) = e6 at O2 R1
  generalize (((((uH a1_0) / 65536) / 65536) / 65536) % 65536) = e7 at O2 R1
  generalize (sH a1_0) = e8 at O2 R1
  have HC1 := Lib.hid C1
  clear C1
  have HC2 := Lib.hid C2
  clear C2
  have HS1 := Lib.hid S1
  clear S1
  have HO1 := Lib.hid O1
  clear O1
  have HO2 := Lib.hid O2
  clear O2
  have HR1 := Lib.hid R1
  clear R1
  have HR2 := Lib.hid R2
  clear R2
  clear p0 p1 q0 q1 r0 r1 s0 s1 w0_0 w0_1 w1_0 w1_1
  go_enter Try.func10, Try.ntmps10
  go_wp2_with fail
  go_region_held3 (fun w' => Below w.heap.size w w' ∧ w'.cell? ⟨w.heap.size, 0, none⟩ = some (.int .i64 a0_0) ∧ w'.cell? ⟨w.heap.size, 1, none⟩ = some (.int .u64 a0_1) ∧ w'.cell? ⟨w.heap.size + 1, 0, none⟩ = some (.int .i64 a1_0) ∧ w'.cell? ⟨w.heap.size + 1, 1, none⟩ = some (.int .u64 a1_1)) (first | exact keep4 (Nat.le_refl _) hbx ‹_› | ((repeat' apply And.intro) <;> first | (go_keep; done) | (go_simp; done) | (repeat (first | exact Below.refl _ _ | assumption | refine Below.drew ?_ | refine Below.alloc ?_ (by first | omega | (simp <;> omega)) _ | refine Below.setCell ?_ (by first | omega | (simp <;> omega)) _)))) (first | (go_at_call 40; ((with_reducible refine (HC1.out _).mono ?_); rintro e wx ⟨rfl, hbx⟩)) | (go_at_call 40; ((with_reducible refine (HC2.out _).mono ?_); rintro e wx ⟨rfl, hbx⟩)) | (go_at_call 42; ((with_reducible refine (HS1.out _).mono ?_); rintro e wx ⟨rfl, hbx⟩)) | (go_at_call 38; ((with_reducible refine (HO1.out _).mono ?_); rintro e wx ⟨rfl, hbx⟩)) | (go_at_call 38; ((with_reducible refine (HO2.out _).mono ?_); rintro e wx ⟨rfl, hbx⟩)) | (go_at_call 41; ((with_reducible refine (HR1.out _).mono ?_); rintro e wx ⟨rfl, hbx⟩)) | (go_at_call 41; ((with_reducible refine (HR2.out _).mono ?_); rintro e wx ⟨rfl, hbx⟩)) | (go_at_call 30; ((with_reducible refine (long0 _).mono ?_); rintro e wx ⟨rfl, hbx⟩)) | (go_at_call 33; ((with_reducible refine (lives2 _).mono ?_); rintro e wx ⟨rfl, hbx⟩)))
  go_wp2_with fail
  go_ret
  exact ⟨rfl, ((‹_› : Below w.heap.size w _ ∧ _)).1⟩
set_option maxRecDepth 100000 in
theorem lifted (os : Os) (started : os.Started) (H : Type) (enc : TypeId × Value → H) :
    ReturnsInHanded {} Try.checked os 10 .any (Rows.wideOrdersSpec.pre6 enc Try.prog Try.f10 Rows.wideOrdersRow.domain false) (Rows.wideOrdersSpec.post enc Try.prog Try.f10 false true false false) := by
  refine returnsInHanded_of_change (C := Try.checked) own started (by kernel_rfl) Try.func10
    (ChangeSpec.witness6 (enc := enc) (C := Try.checked) false ⟨#[], #[.agg #[.int .i64 0, .int .u64 0], .agg #[.int .i64 0, .int .u64 0]], []⟩ 8 (by kernel_rfl) (by kernel_rfl) (by kernel_rfl) (by kernel_rfl)) ?_
  intro W base args ds gs before hval0 hW hcnd _
  have hval : ∀ (j : Nat) t v, Try.f10.params[j]? = some t → args[j]? = some v → Value.okWide Try.prog W .any base t v := hval0
  have hW' := hW
  obtain ⟨p, q, hA0, hV, rfl, hfz, hnd⟩ := hW
  have hA : DataW.TrodAll enc Try.prog W 0 (fun _ => true) true Try.f10.params.toList args.toList ds p := hA0
  rw [Try.params10] at hA hval
  obtain ⟨v0, vs0, d0, ds0, p0, q0, hargs, rfl, rfl, h0, rr0⟩ := trodAll_cons hA
  obtain ⟨v1, vs1, d1, ds1, p1, q1, rfl, rfl, rfl, h1, rr1⟩ := trodAll_cons rr0
  obtain ⟨rfl, rfl, rfl⟩ := trodAll_nil rr1
  obtain rfl : args = #[v0, v1] := by cases args; simp_all
  obtain ⟨rfl, rfl⟩ := trodVars_none hV
  have k0 := h0
  have lt0 : ∀ x ∈ p0, x.block < W.heap.size := by obtain ⟨m, hm⟩ := k0; exact DataW.trod_lt m _ _ _ hm
  obtain ⟨e0_0, e0_1, y0_0, y0_1, q0, rfl, _, _, t0_0, t0_1⟩ := open_agg2 Try.underlying35 (by kernel_rfl) (by kernel_rfl) (hval 0 35 v0 rfl rfl) h0
  obtain ⟨a0_0, g0_0, _, w0_0⟩ := DataW.trod_int Try.underlying2 t0_0
  simp only [List.cons.injEq, and_true] at g0_0
  subst g0_0
  obtain ⟨a0_1, g0_1, _, w0_1⟩ := DataW.trod_int Try.underlying33 t0_1
  simp only [List.cons.injEq, and_true] at g0_1
  subst g0_1
  have k1 := h1
  have lt1 : ∀ x ∈ p1, x.block < W.heap.size := by obtain ⟨m, hm⟩ := k1; exact DataW.trod_lt m _ _ _ hm
  obtain ⟨e1_0, e1_1, y1_0, y1_1, q1, rfl, _, _, t1_0, t1_1⟩ := open_agg2 Try.underlying35 (by kernel_rfl) (by kernel_rfl) (hval 1 35 v1 rfl rfl) h1
  obtain ⟨a1_0, g1_0, _, w1_0⟩ := DataW.trod_int Try.underlying2 t1_0
  simp only [List.cons.injEq, and_true] at g1_0
  subst g1_0
  obtain ⟨a1_1, g1_1, _, w1_1⟩ := DataW.trod_int Try.underlying33 t1_1
  simp only [List.cons.injEq, and_true] at g1_1
  subst g1_1
  clear hA0 hval0
  refine (walk a0_0 a0_1 a1_0 a1_1 W w0_0 w0_1 w1_0 w1_1).mono fun e W' ⟨he, bel⟩ => ?_
  subst he
  exact ⟨_, rfl, _, _, _, [], _, [], hW', trodAll_mk1 (shut_bool Try.underlying4 _), (trodAll_cons_mk (Below.trod laidOut (by kernel_rfl) (of_decide_eq_true (by kernel_rfl)) k0 bel lt0) (trodAll_cons_mk (Below.trod laidOut (by kernel_rfl) (of_decide_eq_true (by kernel_rfl)) k1 bel lt1) trodAll_mk0)), rfl, bel.frame _, fun h => by cases h⟩

theorem over : Rows.wideOrdersRow.holds Try.pinned (OpenSpec.ofChange Rows.wideOrdersSpec) :=
  OpenClaim.holds_of_wide 10 Try.f10 rfl rfl rfl rfl rfl rfl rfl ⟨rfl, rfl, rfl, rfl, rfl⟩ rfl rfl rfl rfl rfl (by kernel_rfl) Try.func10 (by kernel_rfl)
    (of_decide_eq_true (by kernel_rfl)) (by unfold Func.isWrapper; first | (rw [if_pos (by decide +kernel)]; kernel_rfl) | (rw [if_neg (by decide +kernel)]; exact ⟨rfl, rfl⟩))
    (fun os started H enc _ => lifted os started H enc)

theorem proved : Rows.WideOrdersSaid := over
#print axioms proved
end Go.Proofs.Ytjfdlamfklhodaa.wideOrders
