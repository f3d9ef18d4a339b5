/- What is told of no set. No condition. -/
import Derived.Test.YtbcnabaholgfiaaGreatRows
import Derived.WalkKit
import Derived.ProofKit
import Derived.OpenShut
import Derived.ChangeOld
import Derived.Below
import Derived.Outline
import Derived.Lib.SmallJoins
import Derived.Test.YtbcnabaholgfiaaGreatPLogmNone
import Derived.Test.YtbcnabaholgfiaaGreatFl
set_option linter.unusedVariables false
set_option linter.unusedSimpArgs false
namespace Go.Proofs.YtbcnabaholgfiaaGreat.logmNone
open Go.ChangeShapes Go.WideShapes Go.ChangeAt Go.RowKit Go.Joins

theorem own : ownKnob Tryz.prog.godebug = none := by kernel_rfl
theorem laidOut : laidOutB Tryz.prog = true := by kernel_rfl

theorem walk (a0_0 a0_1 a0_2 a0_3 a0_4 : Int) (a1_0 a1_1 a1_2 a1_3 : Int) (w : World) (w0_0 : (Lit.int .i64 a0_0).wf = true) (w0_1 : (Lit.int .i64 a0_1).wf = true) (w0_2 : (Lit.int .i64 a0_2).wf = true) (w0_3 : (Lit.int .i64 a0_3).wf = true) (w0_4 : (Lit.int .i64 a0_4).wf = true) (w1_0 : (Lit.int .i64 a1_0).wf = true) (w1_1 : (Lit.int .i64 a1_1).wf = true) (w1_2 : (Lit.int .i64 a1_2).wf = true) (w1_3 : (Lit.int .i64 a1_3).wf = true) :
    Calls Tryz.prog 3 #[.agg #[.int .i64 a0_0, .int .i64 a0_1, .int .i64 a0_2, .int .i64 a0_3, .int .i64 a0_4], .agg #[.int .i64 a1_0, .int .i64 a1_1, .int .i64 a1_2, .int .i64 a1_3]] w fun e w' => e = .returned (.bool true) ∧ Below w.heap.size w w' := by
  exact Ev.run_law (P := Tryz.prog) (by kernel_rfl) Ev.namesLogmNone Ev.eqsLogmNone Ev.ranLogmNone (by simp [Ev.argsLogmNone, Ev.AV.bd]) (Ev.sgOf (fun j => ([a0_0, a0_1, a0_2, a0_3, a0_4, a1_0, a1_1, a1_2, a1_3] : List Int).getD j 0)) (Ev.sgOf_ok _) w
set_option maxRecDepth 100000 in
theorem lifted (os : Os) (started : os.Started) (H : Type) (enc : TypeId × Value → H) :
    ReturnsInHanded {} Tryz.checked os 3 .any (Rows.logmNoneSpec.pre6 enc Tryz.prog Tryz.f3 Rows.logmNoneRow.domain false) (Rows.logmNoneSpec.post enc Tryz.prog Tryz.f3 false true false false) := by
  refine returnsInHanded_of_change (C := Tryz.checked) own started (by kernel_rfl) Tryz.func3
    (ChangeSpec.witness6 (enc := enc) (C := Tryz.checked) false ⟨#[], #[.agg #[.int .i64 0, .int .i64 0, .int .i64 0, .int .i64 0, .int .i64 0], .agg #[.int .i64 0, .int .i64 0, .int .i64 0, .int .i64 0]], []⟩ 8 (by kernel_rfl) (by kernel_rfl) (by kernel_rfl) (by kernel_rfl)) ?_
  intro W base args ds gs before hval0 hW hcnd _
  have hval : ∀ (j : Nat) t v, Tryz.f3.params[j]? = some t → args[j]? = some v → Value.okWide Tryz.prog W .any base t v := hval0
  have hW' := hW
  obtain ⟨p, q, hA0, hV, rfl, hfz, hnd⟩ := hW
  have hA : DataW.TrodAll enc Tryz.prog W 0 (fun _ => true) true Tryz.f3.params.toList args.toList ds p := hA0
  rw [Tryz.params3] at hA hval
  obtain ⟨v0, vs0, d0, ds0, p0, q0, hargs, rfl, rfl, h0, rr0⟩ := trodAll_cons hA
  obtain ⟨v1, vs1, d1, ds1, p1, q1, rfl, rfl, rfl, h1, rr1⟩ := trodAll_cons rr0
  obtain ⟨rfl, rfl, rfl⟩ := trodAll_nil rr1
  obtain rfl : args = #[v0, v1] := by cases args; simp_all
  obtain ⟨rfl, rfl⟩ := trodVars_none hV
  have k0 := h0
  have lt0 : ∀ x ∈ p0, x.block < W.heap.size := by obtain ⟨m, hm⟩ := k0; exact DataW.trod_lt m _ _ _ hm
  obtain ⟨z0_, rfl, o0, l0_⟩ := flat_open (m := 8) Tryz.underlying25 (by kernel_rfl) (hval 0 25 v0 rfl rfl) h0
  obtain ⟨a0_0, z0_0, rfl, l0_0⟩ := len_cons l0_
  obtain ⟨a0_1, z0_1, rfl, l0_1⟩ := len_cons l0_0
  obtain ⟨a0_2, z0_2, rfl, l0_2⟩ := len_cons l0_1
  obtain ⟨a0_3, z0_3, rfl, l0_3⟩ := len_cons l0_2
  obtain ⟨a0_4, z0_4, rfl, l0_4⟩ := len_cons l0_3
  obtain rfl := List.eq_nil_of_length_eq_zero l0_4
  have w0_0 := flat_wf o0 (j := 0) (by simp) rfl
  have w0_1 := flat_wf o0 (j := 1) (by simp) rfl
  have w0_2 := flat_wf o0 (j := 2) (by simp) rfl
  have w0_3 := flat_wf o0 (j := 3) (by simp) rfl
  have w0_4 := flat_wf o0 (j := 4) (by simp) rfl
  have k1 := h1
  have lt1 : ∀ x ∈ p1, x.block < W.heap.size := by obtain ⟨m, hm⟩ := k1; exact DataW.trod_lt m _ _ _ hm
  obtain ⟨z1_, rfl, o1, l1_⟩ := flat_open (m := 8) Tryz.underlying27 (by kernel_rfl) (hval 1 27 v1 rfl rfl) h1
  obtain ⟨a1_0, z1_0, rfl, l1_0⟩ := len_cons l1_
  obtain ⟨a1_1, z1_1, rfl, l1_1⟩ := len_cons l1_0
  obtain ⟨a1_2, z1_2, rfl, l1_2⟩ := len_cons l1_1
  obtain ⟨a1_3, z1_3, rfl, l1_3⟩ := len_cons l1_2
  obtain rfl := List.eq_nil_of_length_eq_zero l1_3
  have w1_0 := flat_wf o1 (j := 0) (by simp) rfl
  have w1_1 := flat_wf o1 (j := 1) (by simp) rfl
  have w1_2 := flat_wf o1 (j := 2) (by simp) rfl
  have w1_3 := flat_wf o1 (j := 3) (by simp) rfl
  clear hA0 hval0
  refine (walk a0_0 a0_1 a0_2 a0_3 a0_4 a1_0 a1_1 a1_2 a1_3 W w0_0 w0_1 w0_2 w0_3 w0_4 w1_0 w1_1 w1_2 w1_3).mono fun e W' ⟨he, bel⟩ => ?_
  subst he
  exact ⟨_, rfl, _, _, _, [], _, [], hW', trodAll_mk1 (shut_bool Tryz.underlying4 _), (trodAll_cons_mk (Below.trod laidOut (by kernel_rfl) (of_decide_eq_true (by kernel_rfl)) k0 bel lt0) (trodAll_cons_mk (Below.trod laidOut (by kernel_rfl) (of_decide_eq_true (by kernel_rfl)) k1 bel lt1) trodAll_mk0)), rfl, bel.frame _, fun h => by cases h⟩

theorem over : Rows.logmNoneRow.holds Tryz.pinned (OpenSpec.ofChange Rows.logmNoneSpec) :=
  OpenClaim.holds_of_wide 3 Tryz.f3 rfl rfl rfl rfl rfl rfl rfl ⟨rfl, rfl, rfl, rfl, rfl⟩ rfl rfl rfl rfl rfl (by kernel_rfl) Tryz.func3 (by kernel_rfl)
    (of_decide_eq_true (by kernel_rfl)) (by unfold Func.isWrapper; first | (rw [if_pos (by decide +kernel)]; kernel_rfl) | (rw [if_neg (by decide +kernel)]; exact ⟨rfl, rfl⟩))
    (fun os started H enc _ => lifted os started H enc)

theorem proved : Rows.LogmNoneSaid := over
#print axioms proved
end Go.Proofs.YtbcnabaholgfiaaGreat.logmNone
