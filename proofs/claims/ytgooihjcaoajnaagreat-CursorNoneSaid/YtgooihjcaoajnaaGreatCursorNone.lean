/- What is told of none, and of no cursor. No condition. -/
import Derived.Test.YtgooihjcaoajnaaGreatRows
import Derived.WalkKit
import Derived.ProofKit
import Derived.OpenShut
import Derived.ChangeOld
import Derived.Below
import Derived.Outline
import Derived.Lib.SmallJoins
import Derived.Test.YtgooihjcaoajnaaGreatPCursorNone
import Derived.Test.YtgooihjcaoajnaaGreatFl
set_option linter.unusedVariables false
set_option linter.unusedSimpArgs false
namespace Go.Proofs.YtgooihjcaoajnaaGreat.cursorNone
open Go.ChangeShapes Go.WideShapes Go.ChangeAt Go.RowKit Go.Joins

theorem own : ownKnob Tryz.prog.godebug = none := by kernel_rfl
theorem laidOut : laidOutB Tryz.prog = true := by kernel_rfl

theorem walk (a0_0 a0_1 a0_2 a0_3 a0_4 a0_5 a0_6 a0_7 a0_8 a0_9 : Int) (a1 : Int) (a2 : Int) (w : World) (w0_0 : (Lit.int .i64 a0_0).wf = true) (w0_1 : (Lit.int .i64 a0_1).wf = true) (w0_2 : (Lit.int .i64 a0_2).wf = true) (w0_3 : (Lit.int .i64 a0_3).wf = true) (w0_4 : (Lit.int .i64 a0_4).wf = true) (w0_5 : (Lit.int .i64 a0_5).wf = true) (w0_6 : (Lit.int .i64 a0_6).wf = true) (w0_7 : (Lit.int .i64 a0_7).wf = true) (w0_8 : (Lit.int .i64 a0_8).wf = true) (w0_9 : (Lit.int .i64 a0_9).wf = true) (w1 : (Lit.int .i64 a1).wf = true) (w2 : (Lit.int .i64 a2).wf = true) :
    Calls Tryz.prog 3 #[.agg #[.int .i64 a0_0, .int .i64 a0_1, .int .i64 a0_2, .int .i64 a0_3, .int .i64 a0_4, .int .i64 a0_5, .int .i64 a0_6, .int .i64 a0_7, .int .i64 a0_8, .int .i64 a0_9], .int .i64 a1, .int .i64 a2] w fun e w' => e = .returned (.bool true) ∧ Below w.heap.size w w' := by
  rcases (by omega : (a2 ≤ 0) ∨ (1 ≤ a2)) with hc | hc
  · have he : Ev.sgOf (Ev.sigCursorNone a0_0 a0_1 a0_2 a0_3 a0_4 a0_5 a0_6 a0_7 a0_8 a0_9 a1 a2 1000) 1000 = a2 := Ev.sgOf_at 1000 rfl (by kernel_rfl) (by kernel_rfl) (by kernel_rfl : Ev.domS 1000 = (none, some (0))) (trivial : True) (show a2 ≤ (0) by omega)
    have hr : Calls Tryz.prog 3 #[.agg #[.int .i64 a0_0, .int .i64 a0_1, .int .i64 a0_2, .int .i64 a0_3, .int .i64 a0_4, .int .i64 a0_5, .int .i64 a0_6, .int .i64 a0_7, .int .i64 a0_8, .int .i64 a0_9], .int .i64 a1, .int .i64 (Ev.sgOf (Ev.sigCursorNone a0_0 a0_1 a0_2 a0_3 a0_4 a0_5 a0_6 a0_7 a0_8 a0_9 a1 a2 1000) 1000)] w fun e w' => e = .returned (.bool true) ∧ Below w.heap.size w w' := Ev.run_law (P := Tryz.prog) (by kernel_rfl) Ev.namesCursorNone Ev.eqsCursorNone Ev.ranCursorNone_0 (by simp [Ev.argsCursorNone_0, Ev.AV.bd]) (Ev.sgOf (Ev.sigCursorNone a0_0 a0_1 a0_2 a0_3 a0_4 a0_5 a0_6 a0_7 a0_8 a0_9 a1 a2 1000)) (Ev.sgOf_ok _) w
    rw [he] at hr
    exact hr
  · have he : Ev.sgOf (Ev.sigCursorNone a0_0 a0_1 a0_2 a0_3 a0_4 a0_5 a0_6 a0_7 a0_8 a0_9 a1 a2 2000) 2000 = a2 := Ev.sgOf_at 2000 rfl (by kernel_rfl) (by kernel_rfl) (by kernel_rfl : Ev.domS 2000 = (some (1), none)) (show (1) ≤ a2 by omega) (trivial : True)
    have hr : Calls Tryz.prog 3 #[.agg #[.int .i64 a0_0, .int .i64 a0_1, .int .i64 a0_2, .int .i64 a0_3, .int .i64 a0_4, .int .i64 a0_5, .int .i64 a0_6, .int .i64 a0_7, .int .i64 a0_8, .int .i64 a0_9], .int .i64 a1, .int .i64 (Ev.sgOf (Ev.sigCursorNone a0_0 a0_1 a0_2 a0_3 a0_4 a0_5 a0_6 a0_7 a0_8 a0_9 a1 a2 2000) 2000)] w fun e w' => e = .returned (.bool true) ∧ Below w.heap.size w w' := Ev.run_law (P := Tryz.prog) (by kernel_rfl) Ev.namesCursorNone Ev.eqsCursorNone Ev.ranCursorNone_1 (by simp [Ev.argsCursorNone_1, Ev.AV.bd]) (Ev.sgOf (Ev.sigCursorNone a0_0 a0_1 a0_2 a0_3 a0_4 a0_5 a0_6 a0_7 a0_8 a0_9 a1 a2 2000)) (Ev.sgOf_ok _) w
    rw [he] at hr
    exact hr
set_option maxRecDepth 100000 in
theorem lifted (os : Os) (started : os.Started) (H : Type) (enc : TypeId × Value → H) :
    ReturnsInHanded {} Tryz.checked os 3 .any (Rows.cursorNoneSpec.pre6 enc Tryz.prog Tryz.f3 Rows.cursorNoneRow.domain false) (Rows.cursorNoneSpec.post enc Tryz.prog Tryz.f3 false true false false) := by
  refine returnsInHanded_of_change (C := Tryz.checked) own started (by kernel_rfl) Tryz.func3
    (ChangeSpec.witness6 (enc := enc) (C := Tryz.checked) false ⟨#[], #[.agg #[.int .i64 0, .int .i64 0, .int .i64 0, .int .i64 0, .int .i64 0, .int .i64 0, .int .i64 0, .int .i64 0, .int .i64 0, .int .i64 0], .int .i64 0, .int .i64 0], []⟩ 8 (by kernel_rfl) (by kernel_rfl) (by kernel_rfl) (by kernel_rfl)) ?_
  intro W base args ds gs before hval0 hW hcnd _
  have hval : ∀ (j : Nat) t v, Tryz.f3.params[j]? = some t → args[j]? = some v → Value.okWide Tryz.prog W .any base t v := hval0
  have hW' := hW
  obtain ⟨p, q, hA0, hV, rfl, hfz, hnd⟩ := hW
  have hA : DataW.TrodAll enc Tryz.prog W 0 (fun _ => true) true Tryz.f3.params.toList args.toList ds p := hA0
  rw [Tryz.params3] at hA hval
  obtain ⟨v0, vs0, d0, ds0, p0, q0, hargs, rfl, rfl, h0, rr0⟩ := trodAll_cons hA
  obtain ⟨v1, vs1, d1, ds1, p1, q1, rfl, rfl, rfl, h1, rr1⟩ := trodAll_cons rr0
  obtain ⟨v2, vs2, d2, ds2, p2, q2, rfl, rfl, rfl, h2, rr2⟩ := trodAll_cons rr1
  obtain ⟨rfl, rfl, rfl⟩ := trodAll_nil rr2
  obtain rfl : args = #[v0, v1, v2] := by cases args; simp_all
  obtain ⟨rfl, rfl⟩ := trodVars_none hV
  have k0 := h0
  have lt0 : ∀ x ∈ p0, x.block < W.heap.size := by obtain ⟨m, hm⟩ := k0; exact DataW.trod_lt m _ _ _ hm
  obtain ⟨z0_, rfl, o0, l0_⟩ := flat_open (m := 8) Tryz.underlying27 (by kernel_rfl) (hval 0 27 v0 rfl rfl) h0
  obtain ⟨a0_0, z0_0, rfl, l0_0⟩ := len_cons l0_
  obtain ⟨a0_1, z0_1, rfl, l0_1⟩ := len_cons l0_0
  obtain ⟨a0_2, z0_2, rfl, l0_2⟩ := len_cons l0_1
  obtain ⟨a0_3, z0_3, rfl, l0_3⟩ := len_cons l0_2
  obtain ⟨a0_4, z0_4, rfl, l0_4⟩ := len_cons l0_3
  obtain ⟨a0_5, z0_5, rfl, l0_5⟩ := len_cons l0_4
  obtain ⟨a0_6, z0_6, rfl, l0_6⟩ := len_cons l0_5
  obtain ⟨a0_7, z0_7, rfl, l0_7⟩ := len_cons l0_6
  obtain ⟨a0_8, z0_8, rfl, l0_8⟩ := len_cons l0_7
  obtain ⟨a0_9, z0_9, rfl, l0_9⟩ := len_cons l0_8
  obtain rfl := List.eq_nil_of_length_eq_zero l0_9
  have w0_0 := flat_wf o0 (j := 0) (by simp) rfl
  have w0_1 := flat_wf o0 (j := 1) (by simp) rfl
  have w0_2 := flat_wf o0 (j := 2) (by simp) rfl
  have w0_3 := flat_wf o0 (j := 3) (by simp) rfl
  have w0_4 := flat_wf o0 (j := 4) (by simp) rfl
  have w0_5 := flat_wf o0 (j := 5) (by simp) rfl
  have w0_6 := flat_wf o0 (j := 6) (by simp) rfl
  have w0_7 := flat_wf o0 (j := 7) (by simp) rfl
  have w0_8 := flat_wf o0 (j := 8) (by simp) rfl
  have w0_9 := flat_wf o0 (j := 9) (by simp) rfl
  have k1 := h1
  have lt1 : ∀ x ∈ p1, x.block < W.heap.size := by obtain ⟨m, hm⟩ := k1; exact DataW.trod_lt m _ _ _ hm
  obtain ⟨a1, rfl, _, _, w1⟩ := open_int Tryz.underlying3 (hval 1 3 v1 rfl rfl) h1
  have k2 := h2
  have lt2 : ∀ x ∈ p2, x.block < W.heap.size := by obtain ⟨m, hm⟩ := k2; exact DataW.trod_lt m _ _ _ hm
  obtain ⟨a2, rfl, _, _, w2⟩ := open_int Tryz.underlying3 (hval 2 3 v2 rfl rfl) h2
  clear hA0 hval0
  refine (walk a0_0 a0_1 a0_2 a0_3 a0_4 a0_5 a0_6 a0_7 a0_8 a0_9 a1 a2 W w0_0 w0_1 w0_2 w0_3 w0_4 w0_5 w0_6 w0_7 w0_8 w0_9 w1 w2).mono fun e W' ⟨he, bel⟩ => ?_
  subst he
  exact ⟨_, rfl, _, _, _, [], _, [], hW', trodAll_mk1 (shut_bool Tryz.underlying4 _), (trodAll_cons_mk (Below.trod laidOut (by kernel_rfl) (of_decide_eq_true (by kernel_rfl)) k0 bel lt0) (trodAll_cons_mk (Below.trod laidOut (by kernel_rfl) (of_decide_eq_true (by kernel_rfl)) k1 bel lt1) (trodAll_cons_mk (Below.trod laidOut (by kernel_rfl) (of_decide_eq_true (by kernel_rfl)) k2 bel lt2) trodAll_mk0))), rfl, bel.frame _, fun h => by cases h⟩

theorem over : Rows.cursorNoneRow.holds Tryz.pinned (OpenSpec.ofChange Rows.cursorNoneSpec) :=
  OpenClaim.holds_of_wide 3 Tryz.f3 rfl rfl rfl rfl rfl rfl rfl ⟨rfl, rfl, rfl, rfl, rfl⟩ rfl rfl rfl rfl rfl (by kernel_rfl) Tryz.func3 (by kernel_rfl)
    (of_decide_eq_true (by kernel_rfl)) (by unfold Func.isWrapper; first | (rw [if_pos (by decide +kernel)]; kernel_rfl) | (rw [if_neg (by decide +kernel)]; exact ⟨rfl, rfl⟩))
    (fun os started H enc _ => lifted os started H enc)

theorem proved : Rows.CursorNoneSaid := over
#print axioms proved
end Go.Proofs.YtgooihjcaoajnaaGreat.cursorNone
