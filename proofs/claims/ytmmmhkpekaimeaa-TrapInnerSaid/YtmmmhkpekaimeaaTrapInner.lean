/- What is caught inside is not caught outside, for any steps. No condition. -/
import Derived.Test.YtmmmhkpekaimeaaRows
import Derived.WalkKit
import Derived.ProofKit
import Derived.OpenShut
import Derived.ChangeOld
import Derived.Below
import Derived.Outline
import Derived.Lib.SmallJoins
import Derived.Test.YtmmmhkpekaimeaaT7
set_option linter.unusedVariables false
namespace Go.Proofs.Ytmmmhkpekaimeaa.trapInner
open Go.ChangeShapes Go.WideShapes Go.ChangeAt Go.RowKit Go.Joins

theorem own : ownKnob Try.prog.godebug = none := by kernel_rfl
theorem laidOut : laidOutB Try.prog = true := by kernel_rfl

set_option maxRecDepth 100000 in
set_option maxHeartbeats 8000000 in
theorem walk (A0 : Option Addr) (n0 c0 : Nat) (z0 : List Int) (w : World) (r0 : Reads w w.heap.size 5 A0 n0 (iv z0)) (o0 : okAll z0) (m0 : n0 ≤ c0 ∧ c0 ≤ maxLen) :
    Calls Try.prog 5 #[.slice A0 n0 c0] w fun e w' => e = .returned (.bool true) ∧ Below w.heap.size w w' := by
  have hmf : ∀ (fn : Fn) (first cap : Array Value) (w : World), (Instr.makeFunc fn first cap).run Try.prog w = .ok (.func fn first cap) w := fun _ _ _ _ => rfl
  have hFew := few_any A0 n0 c0 w.heap.size z0 w r0 (Nat.le_refl _) m0
  have HFew := Lib.hid hFew
  clear hFew r0 o0 m0
  go_enter Try.func5, Try.ntmps5
  go_wp2_with fail
  refine (HFew.out).mono ?_
  intro e w1 hP
  obtain ⟨A, c, n, S, rfl, ho, hS, hn, hb1⟩ := hP
  have hd1 : Blk (w1.alloc (.cells #[.slice A n c, .int .i64 0, .int .i64 0] 27)) w1.heap.size 27 (dcells A n c 0 0) := Blk.new w1 27 _
  have hr1 : Reads (w1.alloc (.cells #[.slice A n c, .int .i64 0, .int .i64 0] 27)) w1.heap.size 5 A n (iv S) := (Reads.of_own ho).alloc (Nat.le_refl _) _
  have HS := Lib.hid hS
  have HD1 := Lib.hid hd1
  have HR1 := Lib.hid hr1
  clear hS hd1 hr1 ho
  have kb1 : Below w.heap.size w (w1.alloc (.cells #[.slice A n c, .int .i64 0, .int .i64 0] 27)) := hb1.alloc hb1.size _
  have hgw : w.heap.size ≤ w1.heap.size := hb1.size
  obtain ⟨g, hg⟩ : ∃ g, w1.heap.size = g := ⟨_, rfl⟩
  have HG := Lib.hid hg
  clear hg
  go_wp2_with fail
  refine (lives5 _).mono ?_
  rintro e w2 ⟨rfl, hb2⟩
  have hd2 := HD1.out.below hb2 HD1.out.lt
  have hr2 := HR1.out.below (hb2.mono (Nat.le_of_lt HD1.out.lt))
  have kb2 : Below w.heap.size w w2 := kb1.trans (hb2.mono kb1.size)
  rw [HG.out] at hd2 hr2 hgw
  rw [HG.out]
  obtain ⟨⟨o, q⟩, hp⟩ : ∃ p, allGo S n 0 = p := ⟨_, rfl⟩
  have HP := Lib.hid hp
  clear hb1 hb2 kb1 HD1 HR1 HFew hp
  have h3 := caught_inner g n c g A 0 0 S w2 hd2 hr2 (Nat.le_refl _) HS (by omega) (by omega)
  rw [HP.out] at h3
  have H3 := Lib.hid h3
  have HR2 := Lib.hid hr2
  have z2 := hd2.lt
  clear h3 hd2 hr2
  go_wp2_with fail
  refine (H3.out).mono ?_
  intro e w3 hP
  obtain ⟨he, hd3, ho3⟩ := hP
  obtain rfl : e = .returned (.tuple #[.agg #[.int .i64 0, .int .i64 0], .bool false]) := he
  have hr3 := ho3.reads HR2.out (Nat.le_of_lt z2) (fun i hi h => by omega)
  have kb3 : Below w.heap.size w w3 := kb2.trans (ho3.below kb2.size (fun i hi h => by omega))
  have e0 : w3.cell? ⟨g, 0, none⟩ = some (.slice A n c) := by rw [hd3.cell]; rfl
  have z3 := hd3.lt
  have h4 := rall_any n c g A S (w3.alloc (.cells #[.int .i64 0, .int .i64 0] 30)) (hr3.alloc (Nat.le_of_lt z3) _) (by simp; omega) (by omega)
  unfold AllP at h4
  rw [HP.out] at h4
  have H4 := Lib.hid h4
  have HD3 := Lib.hid hd3
  clear h4 hr3 hd3 ho3 H3 HP HR2
  go_wp2_with fail
  refine (H4.out).mono ?_
  intro e w4 hP
  obtain ⟨he, hb4⟩ := hP
  obtain rfl : e = .returned (.tuple #[.agg #[.int .i64 (oA o), .int .i64 (oC o)], .bool o.isSome, .int .i64 q]) := he
  have hd4 := (HD3.out.alloc (.cells #[.int .i64 0, .int .i64 0] 30)).below hb4 (by simp; omega)
  have e1 : w4.cell? ⟨g, 1, none⟩ = some (.int .i64 (0 + (q : Int))) := by rw [hd4.cell]; rfl
  rw [Int.zero_add] at e1
  have hf4 := (Blk.new w3 30 #[.int .i64 0, .int .i64 0]).below hb4 (Blk.new w3 30 _).lt
  have e2 : w4.cell? ⟨w3.heap.size, 0, none⟩ = some (.int .i64 0) := by rw [hf4.cell]; rfl
  have e3 : w4.cell? ⟨w3.heap.size, 1, none⟩ = some (.int .i64 0) := by rw [hf4.cell]; rfl
  have z4 := hd4.lt
  have z5 := hf4.lt
  have kb4 : Below w.heap.size w w4 := (kb3.alloc kb3.size _).trans (hb4.mono (by have := kb3.size; simp; omega))
  clear hd4 hf4 hb4 H4 HD3 e0 kb2 kb3
  generalize oA o = a at *
  generalize oC o = cc at *
  generalize o.isSome = b at *
  have heq : ∀ (x y : Int) (W : World), (binOp .eql 30 (.agg #[.int .i64 x, .int .i64 y]) (.agg #[.int .i64 x, .int .i64 y])).run Try.prog W = .ok (.bool true) W := fun x y W => by rw [eq_fault]; simp
  go_wp2_with fail
  go_ret
  exact ⟨rfl, kb4.alloc kb4.size _⟩
set_option maxRecDepth 100000 in
theorem lifted (os : Os) (started : os.Started) (H : Type) (enc : TypeId × Value → H) :
    ReturnsInHanded {} Try.checked os 5 .any (Rows.trapInnerSpec.pre6 enc Try.prog Try.f5 Rows.trapInnerRow.domain false) (Rows.trapInnerSpec.post enc Try.prog Try.f5 false true false false) := by
  refine returnsInHanded_of_change (C := Try.checked) own started (by kernel_rfl) Try.func5
    (ChangeSpec.witness6 (enc := enc) (C := Try.checked) false ⟨#[], #[.slice none 0 0], []⟩ 8 (by kernel_rfl) (by kernel_rfl) (by kernel_rfl) (by kernel_rfl)) ?_
  intro W base args ds gs before hval0 hW hcnd _
  have hval : ∀ (j : Nat) t v, Try.f5.params[j]? = some t → args[j]? = some v → Value.okWide Try.prog W .any base t v := hval0
  have hW' := hW
  obtain ⟨p, q, hA0, hV, rfl, hfz, hnd⟩ := hW
  have hA : DataW.TrodAll enc Try.prog W 0 (fun _ => true) true Try.f5.params.toList args.toList ds p := hA0
  rw [Try.params5] at hA hval
  obtain ⟨v0, vs0, d0, ds0, p0, q0, hargs, rfl, rfl, h0, rr0⟩ := trodAll_cons hA
  obtain ⟨rfl, rfl, rfl⟩ := trodAll_nil rr0
  obtain rfl : args = #[v0] := by cases args; simp_all
  obtain ⟨rfl, rfl⟩ := trodVars_none hV
  have k0 := h0
  have lt0 : ∀ x ∈ p0, x.block < W.heap.size := by obtain ⟨m, hm⟩ := k0; exact DataW.trod_lt m _ _ _ hm
  obtain ⟨A0, n0, c0, rfl⟩ := okWide_slice Try.underlying22 (hval 0 22 v0 rfl rfl)
  obtain ⟨z0, r0, o0, m0⟩ := rows_open (F := 5) Try.underlying22 Try.underlying94 (by kernel_rfl) (by kernel_rfl) rfl (by decide) (by intro j f hj; match j, hj with | 0, hj => cases hj; exact Try.underlying3 | 1, hj => cases hj; exact Try.underlying3 | 2, hj => cases hj; exact Try.underlying25 | 3, hj => cases hj; exact Try.underlying3 | 4, hj => cases hj; exact Try.underlying3 | j + 5, hj => simp at hj) h0
  clear hA0 hval0
  refine (walk A0 n0 c0 z0 W r0 o0 m0).mono fun e W' ⟨he, bel⟩ => ?_
  subst he
  exact ⟨_, rfl, _, _, _, [], _, [], hW', trodAll_mk1 (shut_bool Try.underlying4 _), (trodAll_cons_mk (Below.trod laidOut (by kernel_rfl) (of_decide_eq_true (by kernel_rfl)) k0 bel lt0) trodAll_mk0), rfl, bel.frame _, fun h => by cases h⟩

theorem over : Rows.trapInnerRow.holds Try.pinned (OpenSpec.ofChange Rows.trapInnerSpec) :=
  OpenClaim.holds_of_wide 5 Try.f5 rfl rfl rfl rfl rfl rfl rfl ⟨rfl, rfl, rfl, rfl, rfl⟩ rfl rfl rfl rfl rfl (by kernel_rfl) Try.func5 (by kernel_rfl)
    (of_decide_eq_true (by kernel_rfl)) (by unfold Func.isWrapper; first | (rw [if_pos (by decide +kernel)]; kernel_rfl) | (rw [if_neg (by decide +kernel)]; exact ⟨rfl, rfl⟩))
    (fun os started H enc _ => lifted os started H enc)

theorem proved : Rows.TrapInnerSaid := over
#print axioms proved
end Go.Proofs.Ytmmmhkpekaimeaa.trapInner
