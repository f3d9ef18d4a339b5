/- Any number of 128 bits is told as one of 64 bits, or that it is none, as the document says. No condition. -/
import Derived.Test.YtjfdlamfklhodaaRows
import Derived.WalkKit
import Derived.ProofKit
import Derived.OpenShut
import Derived.ChangeOld
import Derived.Below
import Derived.Outline
import Derived.Lib.SmallJoins
import Derived.Test.YtjfdlamfklhodaaC4
set_option linter.unusedVariables false
namespace Go.Proofs.Ytjfdlamfklhodaa.wideInts
open Go.ChangeShapes Go.WideShapes Go.ChangeAt Go.RowKit Go.Joins

theorem own : ownKnob Try.prog.godebug = none := by kernel_rfl
theorem laidOut : laidOutB Try.prog = true := by kernel_rfl

set_option maxHeartbeats 8000000 in
theorem walk (a0_0 a0_1 : Int) (a1 : Int) (w : World) (w0_0 : (Lit.int .i64 a0_0).wf = true) (w0_1 : (Lit.int .u64 a0_1).wf = true) (w1 : (Lit.int .i64 a1).wf = true) :
    Calls Try.prog 11 #[.agg #[.int .i64 a0_0, .int .u64 a0_1], .int .i64 a1] w fun e w' => e = .returned (.bool true) ∧ Below w.heap.size w w' := by
  obtain ⟨h0, h1⟩ := bd64 w0_0
  obtain ⟨l0, l1'⟩ := bdu64 w0_1
  obtain ⟨b0, b1⟩ := bd64 w1
  have l1 : a0_1 < 18446744073709551616 := by omega
  have hb : (0 ≤ a1 ∧ ofH a1 = 0 ∧ a1 % 18446744073709551616 = a1) ∨ (a1 < 0 ∧ ofH a1 = -1 ∧ a1 % 18446744073709551616 = a1 + 18446744073709551616) := by
    by_cases h : a1 < 0
    · exact Or.inr ⟨h, ofH_neg h, by omega⟩
    · exact Or.inl ⟨by omega, ofH_pos (by omega), by omega⟩
  obtain ⟨n, hq⟩ : ∃ n, n = wrap64 a0_1 := ⟨_, rfl⟩
  have hn0 : -9223372036854775808 ≤ n := by rw [hq]; unfold wrap64; omega
  have hn1 : n ≤ 9223372036854775807 := by rw [hq]; unfold wrap64; omega
  have hlo : n % 18446744073709551616 = a0_1 := by rw [hq]; unfold wrap64; omega
  by_cases hy : (0 ≤ n ∧ a0_0 = 0 ∧ a0_1 = n) ∨ (n < 0 ∧ a0_0 = -1 ∧ a0_1 = n + 18446744073709551616)
  · clear hlo
    have I1 : ∀ w : World, Calls Try.prog 43 #[.agg #[.int .i64 a0_0, .int .u64 a0_1]] w fun e w' => e = .returned (.tuple #[.int .i64 n, .bool true]) ∧ Below w.heap.size w w' := fun w => wint_yes _ _ _ hn0 hn1 l0 l1 hy w
    have hl : n % 18446744073709551616 = a0_1 := by omega
    have hh : ofH n = a0_0 := by rcases hy with ⟨h, hq, _⟩ | ⟨h, hq, _⟩
                                 · rw [ofH_pos h, hq]
                                 · rw [ofH_neg h, hq]
    have heq : ∀ W : World, (binOp .eql 35 (.agg #[.int .i64 (ofH n), .int .u64 (n % 18446744073709551616)]) (.agg #[.int .i64 a0_0, .int .u64 a0_1])).run Try.prog W = .ok (.bool true) W := fun W => by rw [eq_wide]; simp [hl, hh]
    clear hl hh hy hq
    have I2 : ∀ w : World, Calls Try.prog 43 #[.agg #[.int .i64 (ofH a1), .int .u64 (a1 % 18446744073709551616)]] w fun e w' => e = .returned (.tuple #[.int .i64 a1, .bool true]) ∧ Below w.heap.size w w' := fun w => wint_yes _ _ _ b0 b1 (by omega) (by omega) hb w
    have HI1 := Lib.hid I1
    have HI2 := Lib.hid I2
    clear I1 I2 hb
    go_enter Try.func11, Try.ntmps11
    go_wp2_with fail
    refine (HI1.out _).mono ?_
    rintro e w1 ⟨rfl, hx1⟩
    have K1 : Below w.heap.size w w1 ∧ w1.cell? ⟨w.heap.size, 0, none⟩ = some (.int .i64 a0_0) ∧ w1.cell? ⟨w.heap.size, 1, none⟩ = some (.int .u64 a0_1) := by
      refine keep2 (Nat.le_refl _) hx1 ?_
      ((repeat' apply And.intro) <;> first | go_keep | (go_simp; done) | (repeat (first | exact Below.refl _ _ | assumption | refine Below.drew ?_ | refine Below.alloc ?_ (by first | omega | (simp <;> omega)) _ | refine Below.setCell ?_ (by first | omega | (simp <;> omega)) _)))
    clear hx1
    obtain ⟨kb, q0, q1⟩ := K1
    go_wp2_with fail
    refine (wof _ b0 b1 _).mono ?_
    rintro e w2 ⟨rfl, hx2⟩
    have K2 : Below w.heap.size w w2 ∧ w2.cell? ⟨w.heap.size, 0, none⟩ = some (.int .i64 a0_0) ∧ w2.cell? ⟨w.heap.size, 1, none⟩ = some (.int .u64 a0_1) := by
      refine keep2 (Nat.le_refl _) hx2 ?_
      ((repeat' apply And.intro) <;> first | go_keep | (go_simp; done) | (repeat (first | exact Below.refl _ _ | assumption | refine Below.drew ?_ | refine Below.alloc ?_ (by first | omega | (simp <;> omega)) _ | refine Below.setCell ?_ (by first | omega | (simp <;> omega)) _)))
    clear hx2 kb q0 q1
    obtain ⟨kb, q0, q1⟩ := K2
    go_wp2_with fail
    refine (HI2.out _).mono ?_
    rintro e w3 ⟨rfl, hx3⟩
    have K3 : Below w.heap.size w w3 ∧ w3.cell? ⟨w.heap.size, 0, none⟩ = some (.int .i64 a0_0) ∧ w3.cell? ⟨w.heap.size, 1, none⟩ = some (.int .u64 a0_1) := by
      refine keep2 (Nat.le_refl _) hx3 ?_
      ((repeat' apply And.intro) <;> first | go_keep | (go_simp; done) | (repeat (first | exact Below.refl _ _ | assumption | refine Below.drew ?_ | refine Below.alloc ?_ (by first | omega | (simp <;> omega)) _ | refine Below.setCell ?_ (by first | omega | (simp <;> omega)) _)))
    clear hx3 kb q0 q1
    obtain ⟨kb, q0, q1⟩ := K3
    go_wp2_with fail
    go_region_held3 (fun w' => Below w.heap.size w w' ∧ w'.cell? ⟨w.heap.size, 0, none⟩ = some (.int .i64 a0_0) ∧ w'.cell? ⟨w.heap.size, 1, none⟩ = some (.int .u64 a0_1)) (first | exact keep2 (Nat.le_refl _) hbx ‹_› | ((repeat' apply And.intro) <;> first | go_keep | (go_simp; done) | (repeat (first | exact Below.refl _ _ | assumption | refine Below.drew ?_ | refine Below.alloc ?_ (by first | omega | (simp <;> omega)) _ | refine Below.setCell ?_ (by first | omega | (simp <;> omega)) _)))) (first | (go_at_call 32; ((with_reducible refine (wof n hn0 hn1 _).mono ?_); rintro e wx ⟨rfl, hbx⟩)) | (go_at_call 33; refine (lives2 _).mono ?_; rintro e wx ⟨rfl, hbx⟩))
    go_wp2_with fail
    go_ret
    exact ⟨rfl, ((‹_› : Below w.heap.size w _ ∧ _)).1⟩
  · have hno : ¬ (a0_0 = ofH n) := by
      intro h
      by_cases hs : n < 0
      · rw [ofH_neg hs] at h; exact hy (Or.inr ⟨hs, h, by omega⟩)
      · rw [ofH_pos (by omega)] at h; exact hy (Or.inl ⟨by omega, h, by omega⟩)
    by_cases z0 : a0_0 = 0
    · have g1 : ¬ a0_1 < 9223372036854775808 := fun h => hy (Or.inl ⟨by omega, z0, by omega⟩)
      have e0 : (a0_0 == 0) = true := by simpa using z0
      have e1 : (a0_0 == -1) = false := by simp [z0]
      clear hy z0
      have I1 : ∀ w : World, Calls Try.prog 43 #[.agg #[.int .i64 a0_0, .int .u64 a0_1]] w fun e w' => e = .returned (.tuple #[.int .i64 0, .bool false]) ∧ Below w.heap.size w w' := fun w => wint_no _ _ n hn0 hn1 l0 l1 hno hlo w
      have I2 : ∀ w : World, Calls Try.prog 43 #[.agg #[.int .i64 (ofH a1), .int .u64 (a1 % 18446744073709551616)]] w fun e w' => e = .returned (.tuple #[.int .i64 a1, .bool true]) ∧ Below w.heap.size w w' := fun w => wint_yes _ _ _ b0 b1 (by omega) (by omega) hb w
      have HI1 := Lib.hid I1
      have HI2 := Lib.hid I2
      clear I1 I2 hb hno hlo hq
      go_enter Try.func11, Try.ntmps11
      go_wp2_with fail
      refine (HI1.out _).mono ?_
      rintro e w1 ⟨rfl, hx1⟩
      have K1 : Below w.heap.size w w1 ∧ w1.cell? ⟨w.heap.size, 0, none⟩ = some (.int .i64 a0_0) ∧ w1.cell? ⟨w.heap.size, 1, none⟩ = some (.int .u64 a0_1) := by
        refine keep2 (Nat.le_refl _) hx1 ?_
        ((repeat' apply And.intro) <;> first | go_keep | (go_simp; done) | (repeat (first | exact Below.refl _ _ | assumption | refine Below.drew ?_ | refine Below.alloc ?_ (by first | omega | (simp <;> omega)) _ | refine Below.setCell ?_ (by first | omega | (simp <;> omega)) _)))
      clear hx1
      obtain ⟨kb, q0, q1⟩ := K1
      go_wp2_with fail
      refine (wof _ b0 b1 _).mono ?_
      rintro e w2 ⟨rfl, hx2⟩
      have K2 : Below w.heap.size w w2 ∧ w2.cell? ⟨w.heap.size, 0, none⟩ = some (.int .i64 a0_0) ∧ w2.cell? ⟨w.heap.size, 1, none⟩ = some (.int .u64 a0_1) := by
        refine keep2 (Nat.le_refl _) hx2 ?_
        ((repeat' apply And.intro) <;> first | go_keep | (go_simp; done) | (repeat (first | exact Below.refl _ _ | assumption | refine Below.drew ?_ | refine Below.alloc ?_ (by first | omega | (simp <;> omega)) _ | refine Below.setCell ?_ (by first | omega | (simp <;> omega)) _)))
      clear hx2 kb q0 q1
      obtain ⟨kb, q0, q1⟩ := K2
      go_wp2_with fail
      refine (HI2.out _).mono ?_
      rintro e w3 ⟨rfl, hx3⟩
      have K3 : Below w.heap.size w w3 ∧ w3.cell? ⟨w.heap.size, 0, none⟩ = some (.int .i64 a0_0) ∧ w3.cell? ⟨w.heap.size, 1, none⟩ = some (.int .u64 a0_1) := by
        refine keep2 (Nat.le_refl _) hx3 ?_
        ((repeat' apply And.intro) <;> first | go_keep | (go_simp; done) | (repeat (first | exact Below.refl _ _ | assumption | refine Below.drew ?_ | refine Below.alloc ?_ (by first | omega | (simp <;> omega)) _ | refine Below.setCell ?_ (by first | omega | (simp <;> omega)) _)))
      clear hx3 kb q0 q1
      obtain ⟨kb, q0, q1⟩ := K3
      go_wp2_with fail
      refine (lives2 _).mono ?_
      rintro e w9 ⟨rfl, hx9⟩
      go_wp2_with fail
      go_ret
      first | exact ⟨rfl, below_below (Nat.le_refl _) hx9 kb⟩ | exact ⟨congrArg (fun b => Ending.returned (.bool b)) (by simp; omega), below_below (Nat.le_refl _) hx9 kb⟩
    · have e0 : (a0_0 == 0) = false := by simpa using z0
      by_cases z1 : a0_0 = -1
      · have g1 : a0_1 < 9223372036854775808 := Int.not_le.1 fun h => hy (Or.inr ⟨by omega, z1, by omega⟩)
        have e1 : (a0_0 == -1) = true := by simpa using z1
        clear hy z0 z1
        have I1 : ∀ w : World, Calls Try.prog 43 #[.agg #[.int .i64 a0_0, .int .u64 a0_1]] w fun e w' => e = .returned (.tuple #[.int .i64 0, .bool false]) ∧ Below w.heap.size w w' := fun w => wint_no _ _ n hn0 hn1 l0 l1 hno hlo w
        have I2 : ∀ w : World, Calls Try.prog 43 #[.agg #[.int .i64 (ofH a1), .int .u64 (a1 % 18446744073709551616)]] w fun e w' => e = .returned (.tuple #[.int .i64 a1, .bool true]) ∧ Below w.heap.size w w' := fun w => wint_yes _ _ _ b0 b1 (by omega) (by omega) hb w
        have HI1 := Lib.hid I1
        have HI2 := Lib.hid I2
        clear I1 I2 hb hno hlo hq
        go_enter Try.func11, Try.ntmps11
        go_wp2_with fail
        refine (HI1.out _).mono ?_
        rintro e w1 ⟨rfl, hx1⟩
        have K1 : Below w.heap.size w w1 ∧ w1.cell? ⟨w.heap.size, 0, none⟩ = some (.int .i64 a0_0) ∧ w1.cell? ⟨w.heap.size, 1, none⟩ = some (.int .u64 a0_1) := by
          refine keep2 (Nat.le_refl _) hx1 ?_
          ((repeat' apply And.intro) <;> first | go_keep | (go_simp; done) | (repeat (first | exact Below.refl _ _ | assumption | refine Below.drew ?_ | refine Below.alloc ?_ (by first | omega | (simp <;> omega)) _ | refine Below.setCell ?_ (by first | omega | (simp <;> omega)) _)))
        clear hx1
        obtain ⟨kb, q0, q1⟩ := K1
        go_wp2_with fail
        refine (wof _ b0 b1 _).mono ?_
        rintro e w2 ⟨rfl, hx2⟩
        have K2 : Below w.heap.size w w2 ∧ w2.cell? ⟨w.heap.size, 0, none⟩ = some (.int .i64 a0_0) ∧ w2.cell? ⟨w.heap.size, 1, none⟩ = some (.int .u64 a0_1) := by
          refine keep2 (Nat.le_refl _) hx2 ?_
          ((repeat' apply And.intro) <;> first | go_keep | (go_simp; done) | (repeat (first | exact Below.refl _ _ | assumption | refine Below.drew ?_ | refine Below.alloc ?_ (by first | omega | (simp <;> omega)) _ | refine Below.setCell ?_ (by first | omega | (simp <;> omega)) _)))
        clear hx2 kb q0 q1
        obtain ⟨kb, q0, q1⟩ := K2
        go_wp2_with fail
        refine (HI2.out _).mono ?_
        rintro e w3 ⟨rfl, hx3⟩
        have K3 : Below w.heap.size w w3 ∧ w3.cell? ⟨w.heap.size, 0, none⟩ = some (.int .i64 a0_0) ∧ w3.cell? ⟨w.heap.size, 1, none⟩ = some (.int .u64 a0_1) := by
          refine keep2 (Nat.le_refl _) hx3 ?_
          ((repeat' apply And.intro) <;> first | go_keep | (go_simp; done) | (repeat (first | exact Below.refl _ _ | assumption | refine Below.drew ?_ | refine Below.alloc ?_ (by first | omega | (simp <;> omega)) _ | refine Below.setCell ?_ (by first | omega | (simp <;> omega)) _)))
        clear hx3 kb q0 q1
        obtain ⟨kb, q0, q1⟩ := K3
        go_wp2_with fail
        refine (lives2 _).mono ?_
        rintro e w9 ⟨rfl, hx9⟩
        go_wp2_with fail
        go_ret
        first | exact ⟨rfl, below_below (Nat.le_refl _) hx9 kb⟩ | exact ⟨congrArg (fun b => Ending.returned (.bool b)) (by simp; omega), below_below (Nat.le_refl _) hx9 kb⟩
      · have e1 : (a0_0 == -1) = false := by simpa using z1
        clear hy z0 z1
        have I1 : ∀ w : World, Calls Try.prog 43 #[.agg #[.int .i64 a0_0, .int .u64 a0_1]] w fun e w' => e = .returned (.tuple #[.int .i64 0, .bool false]) ∧ Below w.heap.size w w' := fun w => wint_no _ _ n hn0 hn1 l0 l1 hno hlo w
        have I2 : ∀ w : World, Calls Try.prog 43 #[.agg #[.int .i64 (ofH a1), .int .u64 (a1 % 18446744073709551616)]] w fun e w' => e = .returned (.tuple #[.int .i64 a1, .bool true]) ∧ Below w.heap.size w w' := fun w => wint_yes _ _ _ b0 b1 (by omega) (by omega) hb w
        have HI1 := Lib.hid I1
        have HI2 := Lib.hid I2
        clear I1 I2 hb hno hlo hq
        go_enter Try.func11, Try.ntmps11
        go_wp2_with fail
        refine (HI1.out _).mono ?_
        rintro e w1 ⟨rfl, hx1⟩
        have K1 : Below w.heap.size w w1 ∧ w1.cell? ⟨w.heap.size, 0, none⟩ = some (.int .i64 a0_0) ∧ w1.cell? ⟨w.heap.size, 1, none⟩ = some (.int .u64 a0_1) := by
          refine keep2 (Nat.le_refl _) hx1 ?_
          ((repeat' apply And.intro) <;> first | go_keep | (go_simp; done) | (repeat (first | exact Below.refl _ _ | assumption | refine Below.drew ?_ | refine Below.alloc ?_ (by first | omega | (simp <;> omega)) _ | refine Below.setCell ?_ (by first | omega | (simp <;> omega)) _)))
        clear hx1
        obtain ⟨kb, q0, q1⟩ := K1
        go_wp2_with fail
        refine (wof _ b0 b1 _).mono ?_
        rintro e w2 ⟨rfl, hx2⟩
        have K2 : Below w.heap.size w w2 ∧ w2.cell? ⟨w.heap.size, 0, none⟩ = some (.int .i64 a0_0) ∧ w2.cell? ⟨w.heap.size, 1, none⟩ = some (.int .u64 a0_1) := by
          refine keep2 (Nat.le_refl _) hx2 ?_
          ((repeat' apply And.intro) <;> first | go_keep | (go_simp; done) | (repeat (first | exact Below.refl _ _ | assumption | refine Below.drew ?_ | refine Below.alloc ?_ (by first | omega | (simp <;> omega)) _ | refine Below.setCell ?_ (by first | omega | (simp <;> omega)) _)))
        clear hx2 kb q0 q1
        obtain ⟨kb, q0, q1⟩ := K2
        go_wp2_with fail
        refine (HI2.out _).mono ?_
        rintro e w3 ⟨rfl, hx3⟩
        have K3 : Below w.heap.size w w3 ∧ w3.cell? ⟨w.heap.size, 0, none⟩ = some (.int .i64 a0_0) ∧ w3.cell? ⟨w.heap.size, 1, none⟩ = some (.int .u64 a0_1) := by
          refine keep2 (Nat.le_refl _) hx3 ?_
          ((repeat' apply And.intro) <;> first | go_keep | (go_simp; done) | (repeat (first | exact Below.refl _ _ | assumption | refine Below.drew ?_ | refine Below.alloc ?_ (by first | omega | (simp <;> omega)) _ | refine Below.setCell ?_ (by first | omega | (simp <;> omega)) _)))
        clear hx3 kb q0 q1
        obtain ⟨kb, q0, q1⟩ := K3
        go_wp2_with fail
        refine (lives2 _).mono ?_
        rintro e w9 ⟨rfl, hx9⟩
        go_wp2_with fail
        go_ret
        first | exact ⟨rfl, below_below (Nat.le_refl _) hx9 kb⟩ | exact ⟨congrArg (fun b => Ending.returned (.bool b)) (by simp; omega), below_below (Nat.le_refl _) hx9 kb⟩

set_option maxRecDepth 100000 in
theorem lifted (os : Os) (started : os.Started) (H : Type) (enc : TypeId × Value → H) :
    ReturnsInHanded {} Try.checked os 11 .any (Rows.wideIntsSpec.pre6 enc Try.prog Try.f11 Rows.wideIntsRow.domain false) (Rows.wideIntsSpec.post enc Try.prog Try.f11 false true false false) := by
  refine returnsInHanded_of_change (C := Try.checked) own started (by kernel_rfl) Try.func11
    (ChangeSpec.witness6 (enc := enc) (C := Try.checked) false ⟨#[], #[.agg #[.int .i64 0, .int .u64 0], .int .i64 0], []⟩ 8 (by kernel_rfl) (by kernel_rfl) (by kernel_rfl) (by kernel_rfl)) ?_
  intro W base args ds gs before hval0 hW hcnd _
  have hval : ∀ (j : Nat) t v, Try.f11.params[j]? = some t → args[j]? = some v → Value.okWide Try.prog W .any base t v := hval0
  have hW' := hW
  obtain ⟨p, q, hA0, hV, rfl, hfz, hnd⟩ := hW
  have hA : DataW.TrodAll enc Try.prog W 0 (fun _ => true) true Try.f11.params.toList args.toList ds p := hA0
  rw [Try.params11] at hA hval
  obtain ⟨v0, vs0, d0, ds0, p0, q0, hargs, rfl, rfl, h0, rr0⟩ := trodAll_cons hA
  obtain ⟨v1, vs1, d1, ds1, p1, q1, rfl, rfl, rfl, h1, rr1⟩ := trodAll_cons rr0
  obtain ⟨rfl, rfl, rfl⟩ := trodAll_nil rr1
  obtain rfl : args = #[v0, v1] := by cases args; simp_all
  obtain ⟨rfl, rfl⟩ := trodVars_none hV
  have k0 := h0
  have lt0 : ∀ x ∈ p0, x.block < W.heap.size := by obtain ⟨m, hm⟩ := k0; exact DataW.trod_lt m _ _ _ hm
  obtain ⟨e0_0, e0_1, y0_0, y0_1, q0, rfl, _, _, t0_0, t0_1⟩ := open_agg2 Try.underlying35 (by kernel_rfl) (by kernel_rfl) (hval 0 35 v0 rfl rfl) h0
  obtain ⟨a0_0, g0_0, _, w0_0⟩ := DataW.trod_int Try.underlying2 t0_0
  simp only [List.cons.injEq, and_true] at g0_0
  subst g0_0
  obtain ⟨a0_1, g0_1, _, w0_1⟩ := DataW.trod_int Try.underlying33 t0_1
  simp only [List.cons.injEq, and_true] at g0_1
  subst g0_1
  have k1 := h1
  have lt1 : ∀ x ∈ p1, x.block < W.heap.size := by obtain ⟨m, hm⟩ := k1; exact DataW.trod_lt m _ _ _ hm
  obtain ⟨a1, rfl, _, _, w1⟩ := open_int Try.underlying3 (hval 1 3 v1 rfl rfl) h1
  clear hA0 hval0
  refine (walk a0_0 a0_1 a1 W w0_0 w0_1 w1).mono fun e W' ⟨he, bel⟩ => ?_
  subst he
  exact ⟨_, rfl, _, _, _, [], _, [], hW', trodAll_mk1 (shut_bool Try.underlying4 _), (trodAll_cons_mk (Below.trod laidOut (by kernel_rfl) (of_decide_eq_true (by kernel_rfl)) k0 bel lt0) (trodAll_cons_mk (Below.trod laidOut (by kernel_rfl) (of_decide_eq_true (by kernel_rfl)) k1 bel lt1) trodAll_mk0)), rfl, bel.frame _, fun h => by cases h⟩

theorem over : Rows.wideIntsRow.holds Try.pinned (OpenSpec.ofChange Rows.wideIntsSpec) :=
  OpenClaim.holds_of_wide 11 Try.f11 rfl rfl rfl rfl rfl rfl rfl ⟨rfl, rfl, rfl, rfl, rfl⟩ rfl rfl rfl rfl rfl (by kernel_rfl) Try.func11 (by kernel_rfl)
    (of_decide_eq_true (by kernel_rfl)) (by unfold Func.isWrapper; first | (rw [if_pos (by decide +kernel)]; kernel_rfl) | (rw [if_neg (by decide +kernel)]; exact ⟨rfl, rfl⟩))
    (fun os started H enc _ => lifted os started H enc)

theorem proved : Rows.WideIntsSaid := over
#print axioms proved
end Go.Proofs.Ytjfdlamfklhodaa.wideInts
