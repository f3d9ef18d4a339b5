/- The product of any two numbers of 64 bits, and any number made wide, are as the document says. No condition. -/
import Derived.Test.YtjfdlamfklhodaaRows
import Derived.WalkKit
import Derived.ProofKit
import Derived.OpenShut
import Derived.ChangeOld
import Derived.Below
import Derived.Outline
import Derived.Lib.SmallJoins
import Derived.Test.YtjfdlamfklhodaaF15
import Derived.Test.YtjfdlamfklhodaaC4
set_option linter.unusedVariables false
namespace Go.Proofs.Ytjfdlamfklhodaa.wideProducts
open Go.ChangeShapes Go.WideShapes Go.ChangeAt Go.RowKit Go.Joins

theorem own : ownKnob Try.prog.godebug = none := by kernel_rfl
theorem laidOut : laidOutB Try.prog = true := by kernel_rfl
theorem prod_bd64 {a b : Int} (p0 : -9223372036854775808 ≤ a) (p1 : a ≤ 9223372036854775807) (q0 : -9223372036854775808 ≤ b) (q1 : b ≤ 9223372036854775807) : -85070591730234615865843651857942052864 ≤ a * b ∧ a * b ≤ 85070591730234615865843651857942052864 := by
  have h1 : (a * b).natAbs ≤ 9223372036854775808 * 9223372036854775808 := by rw [Int.natAbs_mul]; exact Nat.mul_le_mul (by omega) (by omega)
  omega
theorem ofH_div {a : Int} (p0 : -9223372036854775808 ≤ a) (p1 : a ≤ 9223372036854775807) : ofH a = a / 18446744073709551616 := by
  unfold ofH
  by_cases c : a < 0
  · rw [if_pos c]; omega
  · rw [if_neg c]; omega

set_option maxHeartbeats 8000000 in
theorem walk (a0 : Int) (a1 : Int) (w : World) (w0 : (Lit.int .i64 a0).wf = true) (w1 : (Lit.int .i64 a1).wf = true) :
    Calls Try.prog 8 #[.int .i64 a0, .int .i64 a1] w fun e w' => e = .returned (.bool true) ∧ Below w.heap.size w w' := by
  obtain ⟨p0, p1⟩ := bd64 w0
  obtain ⟨q0, q1⟩ := bd64 w1
  obtain ⟨r0, r1⟩ := prod_bd64 p0 p1 q0 q1
  have La : ∀ w : World, Calls Try.prog 30 #[.int .i64 a0] w fun e w' => e = .returned (dg a0) ∧ Below w.heap.size w w' := fun w => long_dg a0 p0 p1 w
  have Lb : ∀ w : World, Calls Try.prog 30 #[.int .i64 a1] w fun e w' => e = .returned (dg a1) ∧ Below w.heap.size w w' := fun w => long_dg a1 q0 q1 w
  have M : ∀ w : World, Calls Try.prog 29 #[dg a0, dg a1] w fun e w' => e = .returned (dg (a0 * a1)) ∧ Below w.heap.size w w' := fun w => mul_dg a0 a1 w
  have Wp : ∀ w : World, Calls Try.prog 28 #[dg (a0 * a1)] w fun e w' => e = .returned (.tuple #[.agg #[.int .i64 (a0 * a1 / 18446744073709551616), .int .u64 (a0 * a1 % 18446744073709551616)], .bool true]) ∧ Below w.heap.size w w' := fun w => wide_dg _ (by omega) (by omega) w
  have Wa : ∀ w : World, Calls Try.prog 28 #[dg a0] w fun e w' => e = .returned (.tuple #[.agg #[.int .i64 (a0 / 18446744073709551616), .int .u64 (a0 % 18446744073709551616)], .bool true]) ∧ Below w.heap.size w w' := fun w => wide_dg _ (by omega) (by omega) w
  have Mu : ∀ w : World, Calls Try.prog 31 #[.int .i64 a0, .int .i64 a1] w fun e w' => e = .returned (.agg #[.int .i64 (a0 * a1 / 18446744073709551616), .int .u64 (a0 * a1 % 18446744073709551616)]) ∧ Below w.heap.size w w' := fun w => wmul _ _ p0 p1 q0 q1 w
  have O : ∀ w : World, Calls Try.prog 32 #[.int .i64 a0] w fun e w' => e = .returned (.agg #[.int .i64 (a0 / 18446744073709551616), .int .u64 (a0 % 18446744073709551616)]) ∧ Below w.heap.size w w' := fun w => by rw [← ofH_div p0 p1]; exact wof a0 p0 p1 w
  generalize dg a0 = vA at *
  generalize dg a1 = vB at *
  generalize dg (a0 * a1) = vM at *
  generalize (a0 * a1 / 18446744073709551616) = x0 at *
  generalize (a0 * a1 % 18446744073709551616) = x1 at *
  generalize (a0 / 18446744073709551616) = y0 at *
  generalize (a0 % 18446744073709551616) = y1 at *
  have HLa := Lib.hid La
  clear La
  have HLb := Lib.hid Lb
  clear Lb
  have HM := Lib.hid M
  clear M
  have HWp := Lib.hid Wp
  clear Wp
  have HWa := Lib.hid Wa
  clear Wa
  have HMu := Lib.hid Mu
  clear Mu
  have HO := Lib.hid O
  clear O
  clear p0 p1 q0 q1 r0 r1 w0 w1
  have heq : ∀ (W : World) (h l : Int), (binOp .eql 35 (.agg #[.int .i64 h, .int .u64 l]) (.agg #[.int .i64 h, .int .u64 l])).run Try.prog W = .ok (.bool true) W := fun W h l => by rw [eq_wide]; simp
  go_enter Try.func8, Try.ntmps8
  go_wp2_with fail
  refine (HLa.out _).mono ?_
  rintro e w1 ⟨rfl, hx1⟩
  have K1 : Below w.heap.size w w1 := below_below (Nat.le_refl _) hx1 (by first | exact kb | (repeat (first | exact Below.refl _ _ | assumption | refine Below.alloc ?_ (by first | omega | (simp <;> omega)) _)))
  have kb := K1
  have zs1 := kb.size
  clear hx1
  go_wp2_with fail
  refine (HLb.out _).mono ?_
  rintro e w2 ⟨rfl, hx2⟩
  have K2 : Below w.heap.size w w2 := below_below (Nat.le_refl _) hx2 (by first | exact kb | (repeat (first | exact Below.refl _ _ | assumption | refine Below.alloc ?_ (by first | omega | (simp <;> omega)) _)))
  clear kb
  have kb := K2
  have zs2 := kb.size
  clear hx2
  go_wp2_with fail
  refine (HM.out _).mono ?_
  rintro e w3 ⟨rfl, hx3⟩
  have K3 : Below w.heap.size w w3 := below_below (Nat.le_refl _) hx3 (by first | exact kb | (repeat (first | exact Below.refl _ _ | assumption | refine Below.alloc ?_ (by first | omega | (simp <;> omega)) _)))
  clear kb
  have kb := K3
  have zs3 := kb.size
  clear hx3
  go_wp2_with fail
  refine (HWp.out _).mono ?_
  rintro e w4 ⟨rfl, hx4⟩
  have K4 : Below w.heap.size w w4 := below_below (Nat.le_refl _) hx4 (by first | exact kb | (repeat (first | exact Below.refl _ _ | assumption | refine Below.alloc ?_ (by first | omega | (simp <;> omega)) _)))
  clear kb
  have kb := K4
  have zs4 := kb.size
  clear hx4
  go_wp2_with fail
  refine (HLa.out _).mono ?_
  rintro e w5 ⟨rfl, hx5⟩
  have K5 : Below w.heap.size w w5 ∧ w5.cell? ⟨w4.heap.size, 0, none⟩ = some (.int .i64 x0) ∧ w5.cell? ⟨w4.heap.size, 1, none⟩ = some (.int .u64 x1) := by
    refine keep2 (Nat.le_refl _) hx5 ?_
    ((repeat' apply And.intro) <;> first | (go_keep; done) | (go_simp; done) | (repeat (first | exact Below.refl _ _ | assumption | refine Below.drew ?_ | refine Below.alloc ?_ (by first | omega | (simp <;> omega)) _ | refine Below.setCell ?_ (by first | omega | (simp <;> omega)) _)))
  have zw4_5 : w4.heap.size < w5.heap.size := by have hq := hx5.size; first | omega | (simp at hq; omega)
  clear kb
  obtain ⟨kb, q0, q1⟩ := K5
  have zs5 := kb.size
  clear hx5
  go_wp2_with fail
  refine (HWa.out _).mono ?_
  rintro e w6 ⟨rfl, hx6⟩
  have K6 : Below w.heap.size w w6 ∧ w6.cell? ⟨w4.heap.size, 0, none⟩ = some (.int .i64 x0) ∧ w6.cell? ⟨w4.heap.size, 1, none⟩ = some (.int .u64 x1) := by
    refine keep2 (Nat.le_refl _) hx6 ?_
    ((repeat' apply And.intro) <;> first | (go_keep; done) | (go_simp; done) | (repeat (first | exact Below.refl _ _ | assumption | refine Below.drew ?_ | refine Below.alloc ?_ (by first | omega | (simp <;> omega)) _ | refine Below.setCell ?_ (by first | omega | (simp <;> omega)) _)))
  have zw4_6 : w4.heap.size < w6.heap.size := by have hq := hx6.size; first | omega | (simp at hq; omega)
  clear kb q0 q1
  obtain ⟨kb, q0, q1⟩ := K6
  have zs6 := kb.size
  clear hx6
  go_wp2_with fail
  go_region_held3 (fun w' => Below w.heap.size w w' ∧ w'.cell? ⟨w4.heap.size, 0, none⟩ = some (.int .i64 x0) ∧ w'.cell? ⟨w4.heap.size, 1, none⟩ = some (.int .u64 x1) ∧ w'.cell? ⟨w6.heap.size, 0, none⟩ = some (.int .i64 y0) ∧ w'.cell? ⟨w6.heap.size, 1, none⟩ = some (.int .u64 y1)) (first | exact keep4 (Nat.le_refl _) hbx ‹_› | ((repeat' apply And.intro) <;> first | (go_keep; done) | (go_simp; done) | (repeat (first | exact Below.refl _ _ | assumption | refine Below.drew ?_ | refine Below.alloc ?_ (by first | omega | (simp <;> omega)) _ | refine Below.setCell ?_ (by first | omega | (simp <;> omega)) _)))) (first | (go_at_call 31; ((with_reducible refine (HMu.out _).mono ?_); rintro e wx ⟨rfl, hbx⟩)) | (go_at_call 32; ((with_reducible refine (HO.out _).mono ?_); rintro e wx ⟨rfl, hbx⟩)) | (go_at_call 33; ((with_reducible refine (lives2 _).mono ?_); rintro e wx ⟨rfl, hbx⟩)))
  go_wp2_with fail
  go_ret
  exact ⟨rfl, ((‹_› : Below w.heap.size w _ ∧ _)).1⟩
set_option maxRecDepth 100000 in
theorem lifted (os : Os) (started : os.Started) (H : Type) (enc : TypeId × Value → H) :
    ReturnsInHanded {} Try.checked os 8 .any (Rows.wideProductsSpec.pre6 enc Try.prog Try.f8 Rows.wideProductsRow.domain false) (Rows.wideProductsSpec.post enc Try.prog Try.f8 false true false false) := by
  refine returnsInHanded_of_change (C := Try.checked) own started (by kernel_rfl) Try.func8
    (ChangeSpec.witness6 (enc := enc) (C := Try.checked) false ⟨#[], #[.int .i64 0, .int .i64 0], []⟩ 8 (by kernel_rfl) (by kernel_rfl) (by kernel_rfl) (by kernel_rfl)) ?_
  intro W base args ds gs before hval0 hW hcnd _
  have hval : ∀ (j : Nat) t v, Try.f8.params[j]? = some t → args[j]? = some v → Value.okWide Try.prog W .any base t v := hval0
  have hW' := hW
  obtain ⟨p, q, hA0, hV, rfl, hfz, hnd⟩ := hW
  have hA : DataW.TrodAll enc Try.prog W 0 (fun _ => true) true Try.f8.params.toList args.toList ds p := hA0
  rw [Try.params8] at hA hval
  obtain ⟨v0, vs0, d0, ds0, p0, q0, hargs, rfl, rfl, h0, rr0⟩ := trodAll_cons hA
  obtain ⟨v1, vs1, d1, ds1, p1, q1, rfl, rfl, rfl, h1, rr1⟩ := trodAll_cons rr0
  obtain ⟨rfl, rfl, rfl⟩ := trodAll_nil rr1
  obtain rfl : args = #[v0, v1] := by cases args; simp_all
  obtain ⟨rfl, rfl⟩ := trodVars_none hV
  have k0 := h0
  have lt0 : ∀ x ∈ p0, x.block < W.heap.size := by obtain ⟨m, hm⟩ := k0; exact DataW.trod_lt m _ _ _ hm
  obtain ⟨a0, rfl, _, _, w0⟩ := open_int Try.underlying3 (hval 0 3 v0 rfl rfl) h0
  have k1 := h1
  have lt1 : ∀ x ∈ p1, x.block < W.heap.size := by obtain ⟨m, hm⟩ := k1; exact DataW.trod_lt m _ _ _ hm
  obtain ⟨a1, rfl, _, _, w1⟩ := open_int Try.underlying3 (hval 1 3 v1 rfl rfl) h1
  clear hA0 hval0
  refine (walk a0 a1 W w0 w1).mono fun e W' ⟨he, bel⟩ => ?_
  subst he
  exact ⟨_, rfl, _, _, _, [], _, [], hW', trodAll_mk1 (shut_bool Try.underlying4 _), (trodAll_cons_mk (Below.trod laidOut (by kernel_rfl) (of_decide_eq_true (by kernel_rfl)) k0 bel lt0) (trodAll_cons_mk (Below.trod laidOut (by kernel_rfl) (of_decide_eq_true (by kernel_rfl)) k1 bel lt1) trodAll_mk0)), rfl, bel.frame _, fun h => by cases h⟩

theorem over : Rows.wideProductsRow.holds Try.pinned (OpenSpec.ofChange Rows.wideProductsSpec) :=
  OpenClaim.holds_of_wide 8 Try.f8 rfl rfl rfl rfl rfl rfl rfl ⟨rfl, rfl, rfl, rfl, rfl⟩ rfl rfl rfl rfl rfl (by kernel_rfl) Try.func8 (by kernel_rfl)
    (of_decide_eq_true (by kernel_rfl)) (by unfold Func.isWrapper; first | (rw [if_pos (by decide +kernel)]; kernel_rfl) | (rw [if_neg (by decide +kernel)]; exact ⟨rfl, rfl⟩))
    (fun os started H enc _ => lifted os started H enc)

theorem proved : Rows.WideProductsSaid := over
#print axioms proved
end Go.Proofs.Ytjfdlamfklhodaa.wideProducts
