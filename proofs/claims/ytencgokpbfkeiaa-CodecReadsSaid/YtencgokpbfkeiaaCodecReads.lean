/- Bytes that are a request are just that request, and others are none. No condition. -/
import Derived.Test.YtencgokpbfkeiaaRows
import Derived.WalkKit
import Derived.ProofKit
import Derived.OpenShut
import Derived.ChangeOld
import Derived.Below
import Derived.Outline
import Derived.Lib.SmallJoins
import Derived.Test.YtencgokpbfkeiaaCr
set_option linter.unusedVariables false
set_option linter.unusedSimpArgs false
namespace Go.Proofs.Ytencgokpbfkeiaa.codecReads
open Go.ChangeShapes Go.WideShapes Go.ChangeAt Go.RowKit Go.Joins

theorem own : ownKnob Try.prog.godebug = none := by kernel_rfl
theorem laidOut : laidOutB Try.prog = true := by kernel_rfl
theorem rok_of {x0 x1 x2 x3 x4 x5 x6 x7 x8 x9 x10 x11 x12 x13 x14 x15 x16 x17 : Int} (h0 : (Lit.int .i64 x0).wf = true) (h1 : (Lit.int .i64 x1).wf = true) (h2 : (Lit.int .i64 x2).wf = true) (h3 : (Lit.int .i64 x3).wf = true) (h4 : (Lit.int .i64 x4).wf = true) (h5 : (Lit.int .i64 x5).wf = true) (h6 : (Lit.int .i64 x6).wf = true) (h7 : (Lit.int .i64 x7).wf = true) (h8 : (Lit.int .i64 x8).wf = true) (h9 : (Lit.int .i64 x9).wf = true) (h10 : (Lit.int .i64 x10).wf = true) (h11 : (Lit.int .i64 x11).wf = true) (h12 : (Lit.int .i64 x12).wf = true) (h13 : (Lit.int .i64 x13).wf = true) (h14 : (Lit.int .i64 x14).wf = true) (h15 : (Lit.int .i64 x15).wf = true) (h16 : (Lit.int .i64 x16).wf = true) (h17 : (Lit.int .i64 x17).wf = true) : ROk ⟨x0, x1, x2, x3, x4, x5, x6, x7, ⟨x8, x9, x10, x11, x12, x13, x14, x15, x16, x17⟩⟩ := by
  have hb : ∀ {x : Int}, (Lit.int .i64 x).wf = true → I64 x := fun h => by have := bounds_i64 h; unfold I64; omega
  intro z hz
  unfold rnums qnums at hz
  simp only at hz
  repeat' split at hz
  all_goals
    simp only [List.mem_cons, List.not_mem_nil, or_false] at hz
    first | (rcases hz with rfl | rfl | rfl | rfl <;> exact hb (by assumption)) | (rcases hz with rfl | rfl | rfl <;> exact hb (by assumption)) | (rcases hz with rfl | rfl <;> exact hb (by assumption)) | (subst hz; exact hb (by assumption))

theorem walk (A0 : Option Addr) (n0 c0 : Nat) (z0 : List Int) (a1_0 a1_1 a1_2 a1_3 a1_4 a1_5 a1_6 a1_7 a1_8 a1_9 a1_10 a1_11 a1_12 a1_13 a1_14 a1_15 a1_16 a1_17 : Int) (w : World) (r0 : Reads w w.heap.size 1 A0 n0 (kv .u8 z0)) (o0 : okK .u8 z0) (m0 : n0 ≤ c0 ∧ c0 ≤ maxLen) (w1_0 : (Lit.int .i64 a1_0).wf = true) (w1_1 : (Lit.int .i64 a1_1).wf = true) (w1_2 : (Lit.int .i64 a1_2).wf = true) (w1_3 : (Lit.int .i64 a1_3).wf = true) (w1_4 : (Lit.int .i64 a1_4).wf = true) (w1_5 : (Lit.int .i64 a1_5).wf = true) (w1_6 : (Lit.int .i64 a1_6).wf = true) (w1_7 : (Lit.int .i64 a1_7).wf = true) (w1_8 : (Lit.int .i64 a1_8).wf = true) (w1_9 : (Lit.int .i64 a1_9).wf = true) (w1_10 : (Lit.int .i64 a1_10).wf = true) (w1_11 : (Lit.int .i64 a1_11).wf = true) (w1_12 : (Lit.int .i64 a1_12).wf = true) (w1_13 : (Lit.int .i64 a1_13).wf = true) (w1_14 : (Lit.int .i64 a1_14).wf = true) (w1_15 : (Lit.int .i64 a1_15).wf = true) (w1_16 : (Lit.int .i64 a1_16).wf = true) (w1_17 : (Lit.int .i64 a1_17).wf = true) :
    Calls Try.prog 7 #[.slice A0 n0 c0, .agg #[.int .i64 a1_0, .int .i64 a1_1, .int .i64 a1_2, .int .i64 a1_3, .int .i64 a1_4, .int .i64 a1_5, .int .i64 a1_6, .int .i64 a1_7, .int .i64 a1_8, .int .i64 a1_9, .int .i64 a1_10, .int .i64 a1_11, .int .i64 a1_12, .int .i64 a1_13, .int .i64 a1_14, .int .i64 a1_15, .int .i64 a1_16, .int .i64 a1_17]] w fun e w' => e = .returned (.bool true) ∧ Below w.heap.size w w' := by
  exact codec_reads A0 n0 c0 z0 ⟨a1_0, a1_1, a1_2, a1_3, a1_4, a1_5, a1_6, a1_7, ⟨a1_8, a1_9, a1_10, a1_11, a1_12, a1_13, a1_14, a1_15, a1_16, a1_17⟩⟩ (rok_of w1_0 w1_1 w1_2 w1_3 w1_4 w1_5 w1_6 w1_7 w1_8 w1_9 w1_10 w1_11 w1_12 w1_13 w1_14 w1_15 w1_16 w1_17) w r0 o0 m0
set_option maxRecDepth 100000 in
theorem lifted (os : Os) (started : os.Started) (H : Type) (enc : TypeId × Value → H) :
    ReturnsInHanded {} Try.checked os 7 .any (Rows.codecReadsSpec.pre6 enc Try.prog Try.f7 Rows.codecReadsRow.domain false) (Rows.codecReadsSpec.post enc Try.prog Try.f7 false true false false) := by
  refine returnsInHanded_of_change (C := Try.checked) own started (by kernel_rfl) Try.func7
    (ChangeSpec.witness6 (enc := enc) (C := Try.checked) false ⟨#[], #[.slice none 0 0, .agg #[.int .i64 0, .int .i64 0, .int .i64 0, .int .i64 0, .int .i64 0, .int .i64 0, .int .i64 0, .int .i64 0, .int .i64 0, .int .i64 0, .int .i64 0, .int .i64 0, .int .i64 0, .int .i64 0, .int .i64 0, .int .i64 0, .int .i64 0, .int .i64 0]], []⟩ 8 (by kernel_rfl) (by kernel_rfl) (by kernel_rfl) (by kernel_rfl)) ?_
  intro W base args ds gs before hval0 hW hcnd _
  have hval : ∀ (j : Nat) t v, Try.f7.params[j]? = some t → args[j]? = some v → Value.okWide Try.prog W .any base t v := hval0
  have hW' := hW
  obtain ⟨p, q, hA0, hV, rfl, hfz, hnd⟩ := hW
  have hA : DataW.TrodAll enc Try.prog W 0 (fun _ => true) true Try.f7.params.toList args.toList ds p := hA0
  rw [Try.params7] at hA hval
  obtain ⟨v0, vs0, d0, ds0, p0, q0, hargs, rfl, rfl, h0, rr0⟩ := trodAll_cons hA
  obtain ⟨v1, vs1, d1, ds1, p1, q1, rfl, rfl, rfl, h1, rr1⟩ := trodAll_cons rr0
  obtain ⟨rfl, rfl, rfl⟩ := trodAll_nil rr1
  obtain rfl : args = #[v0, v1] := by cases args; simp_all
  obtain ⟨rfl, rfl⟩ := trodVars_none hV
  have k0 := h0
  have lt0 : ∀ x ∈ p0, x.block < W.heap.size := by obtain ⟨m, hm⟩ := k0; exact DataW.trod_lt m _ _ _ hm
  obtain ⟨A0, n0, c0, rfl⟩ := okWide_slice Try.underlying58 (hval 0 58 v0 rfl rfl)
  obtain ⟨z0, r0, o0, m0⟩ := kints_open Try.underlying58 Try.underlying5 (by kernel_rfl) h0
  have k1 := h1
  have lt1 : ∀ x ∈ p1, x.block < W.heap.size := by obtain ⟨m, hm⟩ := k1; exact DataW.trod_lt m _ _ _ hm
  obtain ⟨z1_, rfl, o1, l1_⟩ := flat_open (m := 8) Try.underlying57 (by kernel_rfl) (hval 1 57 v1 rfl rfl) h1
  obtain ⟨a1_0, z1_0, rfl, l1_0⟩ := len_cons l1_
  obtain ⟨a1_1, z1_1, rfl, l1_1⟩ := len_cons l1_0
  obtain ⟨a1_2, z1_2, rfl, l1_2⟩ := len_cons l1_1
  obtain ⟨a1_3, z1_3, rfl, l1_3⟩ := len_cons l1_2
  obtain ⟨a1_4, z1_4, rfl, l1_4⟩ := len_cons l1_3
  obtain ⟨a1_5, z1_5, rfl, l1_5⟩ := len_cons l1_4
  obtain ⟨a1_6, z1_6, rfl, l1_6⟩ := len_cons l1_5
  obtain ⟨a1_7, z1_7, rfl, l1_7⟩ := len_cons l1_6
  obtain ⟨a1_8, z1_8, rfl, l1_8⟩ := len_cons l1_7
  obtain ⟨a1_9, z1_9, rfl, l1_9⟩ := len_cons l1_8
  obtain ⟨a1_10, z1_10, rfl, l1_10⟩ := len_cons l1_9
  obtain ⟨a1_11, z1_11, rfl, l1_11⟩ := len_cons l1_10
  obtain ⟨a1_12, z1_12, rfl, l1_12⟩ := len_cons l1_11
  obtain ⟨a1_13, z1_13, rfl, l1_13⟩ := len_cons l1_12
  obtain ⟨a1_14, z1_14, rfl, l1_14⟩ := len_cons l1_13
  obtain ⟨a1_15, z1_15, rfl, l1_15⟩ := len_cons l1_14
  obtain ⟨a1_16, z1_16, rfl, l1_16⟩ := len_cons l1_15
  obtain ⟨a1_17, z1_17, rfl, l1_17⟩ := len_cons l1_16
  obtain rfl := List.eq_nil_of_length_eq_zero l1_17
  have w1_0 := flat_wf o1 (j := 0) (by simp) rfl
  have w1_1 := flat_wf o1 (j := 1) (by simp) rfl
  have w1_2 := flat_wf o1 (j := 2) (by simp) rfl
  have w1_3 := flat_wf o1 (j := 3) (by simp) rfl
  have w1_4 := flat_wf o1 (j := 4) (by simp) rfl
  have w1_5 := flat_wf o1 (j := 5) (by simp) rfl
  have w1_6 := flat_wf o1 (j := 6) (by simp) rfl
  have w1_7 := flat_wf o1 (j := 7) (by simp) rfl
  have w1_8 := flat_wf o1 (j := 8) (by simp) rfl
  have w1_9 := flat_wf o1 (j := 9) (by simp) rfl
  have w1_10 := flat_wf o1 (j := 10) (by simp) rfl
  have w1_11 := flat_wf o1 (j := 11) (by simp) rfl
  have w1_12 := flat_wf o1 (j := 12) (by simp) rfl
  have w1_13 := flat_wf o1 (j := 13) (by simp) rfl
  have w1_14 := flat_wf o1 (j := 14) (by simp) rfl
  have w1_15 := flat_wf o1 (j := 15) (by simp) rfl
  have w1_16 := flat_wf o1 (j := 16) (by simp) rfl
  have w1_17 := flat_wf o1 (j := 17) (by simp) rfl
  clear hA0 hval0
  refine (walk A0 n0 c0 z0 a1_0 a1_1 a1_2 a1_3 a1_4 a1_5 a1_6 a1_7 a1_8 a1_9 a1_10 a1_11 a1_12 a1_13 a1_14 a1_15 a1_16 a1_17 W r0 o0 m0 w1_0 w1_1 w1_2 w1_3 w1_4 w1_5 w1_6 w1_7 w1_8 w1_9 w1_10 w1_11 w1_12 w1_13 w1_14 w1_15 w1_16 w1_17).mono fun e W' ⟨he, bel⟩ => ?_
  subst he
  exact ⟨_, rfl, _, _, _, [], _, [], hW', trodAll_mk1 (shut_bool Try.underlying4 _), (trodAll_cons_mk (Below.trod laidOut (by kernel_rfl) (of_decide_eq_true (by kernel_rfl)) k0 bel lt0) (trodAll_cons_mk (Below.trod laidOut (by kernel_rfl) (of_decide_eq_true (by kernel_rfl)) k1 bel lt1) trodAll_mk0)), rfl, bel.frame _, fun h => by cases h⟩

theorem over : Rows.codecReadsRow.holds Try.pinned (OpenSpec.ofChange Rows.codecReadsSpec) :=
  OpenClaim.holds_of_wide 7 Try.f7 rfl rfl rfl rfl rfl rfl rfl ⟨rfl, rfl, rfl, rfl, rfl⟩ rfl rfl rfl rfl rfl (by kernel_rfl) Try.func7 (by kernel_rfl)
    (of_decide_eq_true (by kernel_rfl)) (by unfold Func.isWrapper; first | (rw [if_pos (by decide +kernel)]; kernel_rfl) | (rw [if_neg (by decide +kernel)]; exact ⟨rfl, rfl⟩))
    (fun os started H enc _ => lifted os started H enc)

theorem proved : Rows.CodecReadsSaid := over
#print axioms proved
end Go.Proofs.Ytencgokpbfkeiaa.codecReads
