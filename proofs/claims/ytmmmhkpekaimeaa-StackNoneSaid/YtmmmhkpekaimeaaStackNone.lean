/- What is told of no stack is as the document says. No condition. -/
import Derived.Test.YtmmmhkpekaimeaaRows
import Derived.WalkKit
import Derived.ProofKit
import Derived.OpenShut
import Derived.ChangeOld
import Derived.Below
import Derived.Outline
import Derived.Lib.SmallJoins
import Derived.Test.YtmmmhkpekaimeaaK2
set_option linter.unusedVariables false
namespace Go.Proofs.Ytmmmhkpekaimeaa.stackNone
open Go.ChangeShapes Go.WideShapes Go.ChangeAt Go.RowKit Go.Joins

theorem own : ownKnob Try.prog.godebug = none := by kernel_rfl
theorem laidOut : laidOutB Try.prog = true := by kernel_rfl

set_option maxHeartbeats 4000000 in
theorem walk (A0 : Option Addr) (n0 c0 : Nat) (z0 : List Int) (a1 : Int) (w : World) (r0 : Reads w w.heap.size 1 A0 n0 (iv z0)) (o0 : okAll z0) (m0 : n0 ≤ c0 ∧ c0 ≤ maxLen) (w1 : (Lit.int .i64 a1).wf = true) :
    Calls Try.prog 13 #[.slice A0 n0 c0, .int .i64 a1] w fun e w' => e = .returned (.bool true) ∧ Below w.heap.size w w' := by
  by_cases hlt : 5 < n0
  · skip
    have hF := fun w (r : Reads w w.heap.size 1 A0 n0 (iv z0)) => few_long A0 n0 c0 5 z0 w r m0 (by omega) hlt
    have HF := Lib.hid hF
    clear hF
    have HR := Lib.hid r0
    have hmf : ∀ (fn : Fn) (first cap : Array Value) (w : World), (Instr.makeFunc fn first cap).run Try.prog w = .ok (.func fn first cap) w := fun _ _ _ _ => rfl
    clear r0 o0 m0
    go_enter Try.func13, Try.ntmps13
    go_wp2_with (first | (go_at_call 43; ((with_reducible refine (stk_pop_nil _).mono ?_); rintro e wx ⟨rfl, rfl⟩)) | (go_at_call 47; ((with_reducible refine (stk_top_nil _).mono ?_); rintro e wx ⟨rfl, rfl⟩)) | (go_at_call 44; ((with_reducible refine (stk_clear_nil _).mono ?_); rintro e wx ⟨rfl, rfl⟩)))
    refine (walk_nil _ _ _).mono ?_
    rintro e w1 ⟨rfl, hb1⟩
    have e1 : w1.cell? ⟨w.heap.size, 0, none⟩ = some (.slice none 0 0) := below_cell hb1 (by simp [World.cell?_alloc_new])
    have k1 : Below w.heap.size w w1 := ((Below.refl _ _).alloc (Nat.le_refl _) _).trans (hb1.mono (by simp))
    have hr1 : Reads w1 w1.heap.size 1 A0 n0 (iv z0) := (HR.out.below k1).more k1.size
    have z1 : w.heap.size < w1.heap.size := by have := hb1.size; simp at this; omega
    have HR1 := Lib.hid hr1
    clear hr1
    go_wp2_with fail
    refine (HF.out _ HR1.out).mono ?_
    intro e w2 hP
    obtain ⟨v2, rfl, ho2, hb2⟩ := hP
    obtain ⟨A2, c2, rfl, -⟩ := own_slice ho2
    have e2 := below_cell hb2 e1
    have k2 : Below w.heap.size w w2 := k1.trans (hb2.mono k1.size)
    clear ho2 e1
    go_wp2_with (first | (go_at_call 46; ((with_reducible refine (stk_push_nil _ _ _ _).mono ?_); rintro e wx ⟨rfl, rfl⟩)) | (go_at_call 50; ((with_reducible refine (stk_len_nil _).mono ?_); rintro e wx ⟨rfl, rfl⟩)) | (go_at_call 45; ((with_reducible refine (stk_clone_nil _).mono ?_); rintro e wx ⟨rfl, rfl⟩)))
    refine (lives10 _).mono ?_
    rintro e w3 ⟨rfl, hb3⟩
    go_wp2_with fail
    go_ret
    exact ⟨rfl, k2.trans (hb3.mono k2.size)⟩
  · skip
    have hF := fun w (r : Reads w w.heap.size 1 A0 n0 (iv z0)) => few_short A0 n0 c0 5 z0 w r m0 (by omega) (by omega)
    have HF := Lib.hid hF
    clear hF
    have HR := Lib.hid r0
    have hmf : ∀ (fn : Fn) (first cap : Array Value) (w : World), (Instr.makeFunc fn first cap).run Try.prog w = .ok (.func fn first cap) w := fun _ _ _ _ => rfl
    clear r0 o0 m0
    go_enter Try.func13, Try.ntmps13
    go_wp2_with (first | (go_at_call 43; ((with_reducible refine (stk_pop_nil _).mono ?_); rintro e wx ⟨rfl, rfl⟩)) | (go_at_call 47; ((with_reducible refine (stk_top_nil _).mono ?_); rintro e wx ⟨rfl, rfl⟩)) | (go_at_call 44; ((with_reducible refine (stk_clear_nil _).mono ?_); rintro e wx ⟨rfl, rfl⟩)))
    refine (walk_nil _ _ _).mono ?_
    rintro e w1 ⟨rfl, hb1⟩
    have e1 : w1.cell? ⟨w.heap.size, 0, none⟩ = some (.slice none 0 0) := below_cell hb1 (by simp [World.cell?_alloc_new])
    have k1 : Below w.heap.size w w1 := ((Below.refl _ _).alloc (Nat.le_refl _) _).trans (hb1.mono (by simp))
    have hr1 : Reads w1 w1.heap.size 1 A0 n0 (iv z0) := (HR.out.below k1).more k1.size
    have z1 : w.heap.size < w1.heap.size := by have := hb1.size; simp at this; omega
    have HR1 := Lib.hid hr1
    clear hr1
    go_wp2_with fail
    refine (HF.out _ HR1.out).mono ?_
    intro e w2 hP
    obtain ⟨v2, rfl, ho2, hb2⟩ := hP
    obtain ⟨A2, c2, rfl, -⟩ := own_slice ho2
    have e2 := below_cell hb2 e1
    have k2 : Below w.heap.size w w2 := k1.trans (hb2.mono k1.size)
    clear ho2 e1
    go_wp2_with (first | (go_at_call 46; ((with_reducible refine (stk_push_nil _ _ _ _).mono ?_); rintro e wx ⟨rfl, rfl⟩)) | (go_at_call 50; ((with_reducible refine (stk_len_nil _).mono ?_); rintro e wx ⟨rfl, rfl⟩)) | (go_at_call 45; ((with_reducible refine (stk_clone_nil _).mono ?_); rintro e wx ⟨rfl, rfl⟩)))
    refine (lives10 _).mono ?_
    rintro e w3 ⟨rfl, hb3⟩
    go_wp2_with fail
    go_ret
    exact ⟨rfl, k2.trans (hb3.mono k2.size)⟩
set_option maxRecDepth 100000 in
theorem lifted (os : Os) (started : os.Started) (H : Type) (enc : TypeId × Value → H) :
    ReturnsInHanded {} Try.checked os 13 .any (Rows.stackNoneSpec.pre6 enc Try.prog Try.f13 Rows.stackNoneRow.domain false) (Rows.stackNoneSpec.post enc Try.prog Try.f13 false true false false) := by
  refine returnsInHanded_of_change (C := Try.checked) own started (by kernel_rfl) Try.func13
    (ChangeSpec.witness6 (enc := enc) (C := Try.checked) false ⟨#[], #[.slice none 0 0, .int .i64 0], []⟩ 8 (by kernel_rfl) (by kernel_rfl) (by kernel_rfl) (by kernel_rfl)) ?_
  intro W base args ds gs before hval0 hW hcnd _
  have hval : ∀ (j : Nat) t v, Try.f13.params[j]? = some t → args[j]? = some v → Value.okWide Try.prog W .any base t v := hval0
  have hW' := hW
  obtain ⟨p, q, hA0, hV, rfl, hfz, hnd⟩ := hW
  have hA : DataW.TrodAll enc Try.prog W 0 (fun _ => true) true Try.f13.params.toList args.toList ds p := hA0
  rw [Try.params13] at hA hval
  obtain ⟨v0, vs0, d0, ds0, p0, q0, hargs, rfl, rfl, h0, rr0⟩ := trodAll_cons hA
  obtain ⟨v1, vs1, d1, ds1, p1, q1, rfl, rfl, rfl, h1, rr1⟩ := trodAll_cons rr0
  obtain ⟨rfl, rfl, rfl⟩ := trodAll_nil rr1
  obtain rfl : args = #[v0, v1] := by cases args; simp_all
  obtain ⟨rfl, rfl⟩ := trodVars_none hV
  have k0 := h0
  have lt0 : ∀ x ∈ p0, x.block < W.heap.size := by obtain ⟨m, hm⟩ := k0; exact DataW.trod_lt m _ _ _ hm
  obtain ⟨A0, n0, c0, rfl⟩ := okWide_slice Try.underlying45 (hval 0 45 v0 rfl rfl)
  obtain ⟨z0, r0, o0, m0⟩ := ints_open Try.underlying45 Try.underlying3 (by kernel_rfl) h0
  have k1 := h1
  have lt1 : ∀ x ∈ p1, x.block < W.heap.size := by obtain ⟨m, hm⟩ := k1; exact DataW.trod_lt m _ _ _ hm
  obtain ⟨a1, rfl, _, _, w1⟩ := open_int Try.underlying3 (hval 1 3 v1 rfl rfl) h1
  clear hA0 hval0
  refine (walk A0 n0 c0 z0 a1 W r0 o0 m0 w1).mono fun e W' ⟨he, bel⟩ => ?_
  subst he
  exact ⟨_, rfl, _, _, _, [], _, [], hW', trodAll_mk1 (shut_bool Try.underlying4 _), (trodAll_cons_mk (Below.trod laidOut (by kernel_rfl) (of_decide_eq_true (by kernel_rfl)) k0 bel lt0) (trodAll_cons_mk (Below.trod laidOut (by kernel_rfl) (of_decide_eq_true (by kernel_rfl)) k1 bel lt1) trodAll_mk0)), rfl, bel.frame _, fun h => by cases h⟩

theorem over : Rows.stackNoneRow.holds Try.pinned (OpenSpec.ofChange Rows.stackNoneSpec) :=
  OpenClaim.holds_of_wide 13 Try.f13 rfl rfl rfl rfl rfl rfl rfl ⟨rfl, rfl, rfl, rfl, rfl⟩ rfl rfl rfl rfl rfl (by kernel_rfl) Try.func13 (by kernel_rfl)
    (of_decide_eq_true (by kernel_rfl)) (by unfold Func.isWrapper; first | (rw [if_pos (by decide +kernel)]; kernel_rfl) | (rw [if_neg (by decide +kernel)]; exact ⟨rfl, rfl⟩))
    (fun os started H enc _ => lifted os started H enc)

theorem proved : Rows.StackNoneSaid := over
#print axioms proved
end Go.Proofs.Ytmmmhkpekaimeaa.stackNone
