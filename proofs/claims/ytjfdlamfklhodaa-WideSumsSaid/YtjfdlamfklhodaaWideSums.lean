/- The sum and the difference of any two numbers of 128 bits, and the negative of any, or that there is none, are as the document says. No condition. -/
import Derived.Test.YtjfdlamfklhodaaRows
import Derived.WalkKit
import Derived.ProofKit
import Derived.OpenShut
import Derived.ChangeOld
import Derived.Below
import Derived.Outline
import Derived.Lib.SmallJoins
import Derived.Test.YtjfdlamfklhodaaF11
set_option linter.unusedVariables false
namespace Go.Proofs.Ytjfdlamfklhodaa.wideSums
open Go.ChangeShapes Go.WideShapes Go.ChangeAt Go.RowKit Go.Joins

theorem own : ownKnob Try.prog.godebug = none := by kernel_rfl
theorem laidOut : laidOutB Try.prog = true := by kernel_rfl

set_option maxHeartbeats 4000000 in
theorem walk (a0_0 a0_1 : Int) (a1_0 a1_1 : Int) (w : World) (w0_0 : (Lit.int .i64 a0_0).wf = true) (w0_1 : (Lit.int .u64 a0_1).wf = true) (w1_0 : (Lit.int .i64 a1_0).wf = true) (w1_1 : (Lit.int .u64 a1_1).wf = true) :
    Calls Try.prog 9 #[.agg #[.int .i64 a0_0, .int .u64 a0_1], .agg #[.int .i64 a1_0, .int .u64 a1_1]] w fun e w' => e = .returned (.bool true) ∧ Below w.heap.size w w' := by
  obtain ⟨p0, p1⟩ := bounds_i64 w0_0
  obtain ⟨q0, q1⟩ := bounds_u64 w0_1
  obtain ⟨r0, r1⟩ := bounds_i64 w1_0
  obtain ⟨s0, s1⟩ := bounds_u64 w1_1
  have q2 : a0_1 < 18446744073709551616 := by omega
  have s2 : a1_1 < 18446744073709551616 := by omega
  obtain ⟨d0, d1, d2, d3, d4, d5, d6, d7, d8, ⟨dz0, dz1, dz2, dz3, dz4, dz5, dz6, dz7, dz8⟩, dl, dh, hOa⟩ := rof_val a0_0 a0_1 p0 p1 q0 q2
  obtain ⟨e0, e1, e2, e3, e4, e5, e6, e7, e8, ⟨ez0, ez1, ez2, ez3, ez4, ez5, ez6, ez7, ez8⟩, el, eh, hOb⟩ := rof_val a1_0 a1_1 r0 r1 s0 s2
  obtain ⟨qa, va⟩ := val_of dl dh
  obtain ⟨qb, vb⟩ := val_of el eh
  obtain ⟨f0, f1, f2, f3, f4, f5, f6, f7, f8, x0, x1, ok, hP, hWS, hA⟩ := sum_told a0_0 a0_1 a1_0 a1_1 qa qb d0 d1 d2 d3 d4 d5 d6 d7 d8 e0 e1 e2 e3 e4 e5 e6 e7 e8 p0 p1 q0 q2 r0 r1 s0 s2 dz0 dz1 dz2 dz3 dz4 dz5 dz6 dz7 dz8 ez0 ez1 ez2 ez3 ez4 ez5 ez6 ez7 ez8 va vb
  obtain ⟨m0, m1, m2, m3, m4, m5, m6, m7, m8, t0, t1, t2, t3, t4, t5, t6, t7, t8, y0, y1, is, hM, hQ, hWT, hS⟩ := sub_told a0_0 a0_1 a1_0 a1_1 qa qb d0 d1 d2 d3 d4 d5 d6 d7 d8 e0 e1 e2 e3 e4 e5 e6 e7 e8 p0 p1 q0 q2 r0 r1 s0 s2 dz0 dz1 dz2 dz3 dz4 dz5 dz6 dz7 dz8 ez0 ez1 ez2 ez3 ez4 ez5 ez6 ez7 ez8 va vb
  obtain ⟨u0, u1, u2, u3, u4, u5, u6, u7, u8, z0, z1, may, hU, hWU, hN⟩ := neg_told a0_0 a0_1 qa d0 d1 d2 d3 d4 d5 d6 d7 d8 p0 p1 q0 q2 dz0 dz1 dz2 dz3 dz4 dz5 dz6 dz7 dz8 va
  exact core a0_0 a0_1 a1_0 a1_1 x0 x1 y0 y1 z0 z1 (.agg #[.int .u64 d0, .int .u64 d1, .int .u64 d2, .int .u64 d3, .int .u64 d4, .int .u64 d5, .int .u64 d6, .int .u64 d7, .int .u64 d8]) (.agg #[.int .u64 e0, .int .u64 e1, .int .u64 e2, .int .u64 e3, .int .u64 e4, .int .u64 e5, .int .u64 e6, .int .u64 e7, .int .u64 e8]) (.agg #[.int .u64 f0, .int .u64 f1, .int .u64 f2, .int .u64 f3, .int .u64 f4, .int .u64 f5, .int .u64 f6, .int .u64 f7, .int .u64 f8]) (.agg #[.int .u64 m0, .int .u64 m1, .int .u64 m2, .int .u64 m3, .int .u64 m4, .int .u64 m5, .int .u64 m6, .int .u64 m7, .int .u64 m8]) (.agg #[.int .u64 t0, .int .u64 t1, .int .u64 t2, .int .u64 t3, .int .u64 t4, .int .u64 t5, .int .u64 t6, .int .u64 t7, .int .u64 t8]) (.agg #[.int .u64 u0, .int .u64 u1, .int .u64 u2, .int .u64 u3, .int .u64 u4, .int .u64 u5, .int .u64 u6, .int .u64 u7, .int .u64 u8]) ok is may (Lib.hid hA) (Lib.hid hS) (Lib.hid hN) (Lib.hid hOa) (Lib.hid hOb) (Lib.hid hP) (Lib.hid hM) (Lib.hid hQ) (Lib.hid hU) (Lib.hid hWS) (Lib.hid hWT) (Lib.hid hWU) w
set_option maxRecDepth 100000 in
theorem lifted (os : Os) (started : os.Started) (H : Type) (enc : TypeId × Value → H) :
    ReturnsInHanded {} Try.checked os 9 .any (Rows.wideSumsSpec.pre6 enc Try.prog Try.f9 Rows.wideSumsRow.domain false) (Rows.wideSumsSpec.post enc Try.prog Try.f9 false true false false) := by
  refine returnsInHanded_of_change (C := Try.checked) own started (by kernel_rfl) Try.func9
    (ChangeSpec.witness6 (enc := enc) (C := Try.checked) false ⟨#[], #[.agg #[.int .i64 0, .int .u64 0], .agg #[.int .i64 0, .int .u64 0]], []⟩ 8 (by kernel_rfl) (by kernel_rfl) (by kernel_rfl) (by kernel_rfl)) ?_
  intro W base args ds gs before hval0 hW hcnd _
  have hval : ∀ (j : Nat) t v, Try.f9.params[j]? = some t → args[j]? = some v → Value.okWide Try.prog W .any base t v := hval0
  have hW' := hW
  obtain ⟨p, q, hA0, hV, rfl, hfz, hnd⟩ := hW
  have hA : DataW.TrodAll enc Try.prog W 0 (fun _ => true) true Try.f9.params.toList args.toList ds p := hA0
  rw [Try.params9] at hA hval
  obtain ⟨v0, vs0, d0, ds0, p0, q0, hargs, rfl, rfl, h0, rr0⟩ := trodAll_cons hA
  obtain ⟨v1, vs1, d1, ds1, p1, q1, rfl, rfl, rfl, h1, rr1⟩ := trodAll_cons rr0
  obtain ⟨rfl, rfl, rfl⟩ := trodAll_nil rr1
  obtain rfl : args = #[v0, v1] := by cases args; simp_all
  obtain ⟨rfl, rfl⟩ := trodVars_none hV
  have k0 := h0
  have lt0 : ∀ x ∈ p0, x.block < W.heap.size := by obtain ⟨m, hm⟩ := k0; exact DataW.trod_lt m _ _ _ hm
  obtain ⟨e0_0, e0_1, y0_0, y0_1, q0, rfl, _, _, t0_0, t0_1⟩ := open_agg2 Try.underlying35 (by kernel_rfl) (by kernel_rfl) (hval 0 35 v0 rfl rfl) h0
  obtain ⟨a0_0, g0_0, _, w0_0⟩ := DataW.trod_int Try.underlying2 t0_0
  simp only [List.cons.injEq, and_true] at g0_0
  subst g0_0
  obtain ⟨a0_1, g0_1, _, w0_1⟩ := DataW.trod_int Try.underlying33 t0_1
  simp only [List.cons.injEq, and_true] at g0_1
  subst g0_1
  have k1 := h1
  have lt1 : ∀ x ∈ p1, x.block < W.heap.size := by obtain ⟨m, hm⟩ := k1; exact DataW.trod_lt m _ _ _ hm
  obtain ⟨e1_0, e1_1, y1_0, y1_1, q1, rfl, _, _, t1_0, t1_1⟩ := open_agg2 Try.underlying35 (by kernel_rfl) (by kernel_rfl) (hval 1 35 v1 rfl rfl) h1
  obtain ⟨a1_0, g1_0, _, w1_0⟩ := DataW.trod_int Try.underlying2 t1_0
  simp only [List.cons.injEq, and_true] at g1_0
  subst g1_0
  obtain ⟨a1_1, g1_1, _, w1_1⟩ := DataW.trod_int Try.underlying33 t1_1
  simp only [List.cons.injEq, and_true] at g1_1
  subst g1_1
  clear hA0 hval0
  refine (walk a0_0 a0_1 a1_0 a1_1 W w0_0 w0_1 w1_0 w1_1).mono fun e W' ⟨he, bel⟩ => ?_
  subst he
  exact ⟨_, rfl, _, _, _, [], _, [], hW', trodAll_mk1 (shut_bool Try.underlying4 _), (trodAll_cons_mk (Below.trod laidOut (by kernel_rfl) (of_decide_eq_true (by kernel_rfl)) k0 bel lt0) (trodAll_cons_mk (Below.trod laidOut (by kernel_rfl) (of_decide_eq_true (by kernel_rfl)) k1 bel lt1) trodAll_mk0)), rfl, bel.frame _, fun h => by cases h⟩

theorem over : Rows.wideSumsRow.holds Try.pinned (OpenSpec.ofChange Rows.wideSumsSpec) :=
  OpenClaim.holds_of_wide 9 Try.f9 rfl rfl rfl rfl rfl rfl rfl ⟨rfl, rfl, rfl, rfl, rfl⟩ rfl rfl rfl rfl rfl (by kernel_rfl) Try.func9 (by kernel_rfl)
    (of_decide_eq_true (by kernel_rfl)) (by unfold Func.isWrapper; first | (rw [if_pos (by decide +kernel)]; kernel_rfl) | (rw [if_neg (by decide +kernel)]; exact ⟨rfl, rfl⟩))
    (fun os started H enc _ => lifted os started H enc)

theorem proved : Rows.WideSumsSaid := over
#print axioms proved
end Go.Proofs.Ytjfdlamfklhodaa.wideSums
