/- The code that any steps come to, and the value, are as the document says. No condition. -/
import Derived.Test.YtmmmhkpekaimeaaRows
import Derived.WalkKit
import Derived.ProofKit
import Derived.OpenShut
import Derived.ChangeOld
import Derived.Below
import Derived.Outline
import Derived.Lib.SmallJoins
import Derived.Test.YtmmmhkpekaimeaaT8
set_option linter.unusedVariables false
namespace Go.Proofs.Ytmmmhkpekaimeaa.trapCodes
open Go.ChangeShapes Go.WideShapes Go.ChangeAt Go.RowKit Go.Joins

theorem own : ownKnob Try.prog.godebug = none := by kernel_rfl
theorem laidOut : laidOutB Try.prog = true := by kernel_rfl

set_option maxRecDepth 100000 in
set_option maxHeartbeats 8000000 in
theorem walk (A0 : Option Addr) (n0 c0 : Nat) (z0 : List Int) (a1 : Int) (w : World) (r0 : Reads w w.heap.size 5 A0 n0 (iv z0)) (o0 : okAll z0) (m0 : n0 ≤ c0 ∧ c0 ≤ maxLen) (w1 : (Lit.int .i64 a1).wf = true) :
    Calls Try.prog 4 #[.slice A0 n0 c0, .int .i64 a1] w fun e w' => e = .returned (.bool true) ∧ Below w.heap.size w w' := by
  have hmf : ∀ (fn : Fn) (first cap : Array Value) (w : World), (Instr.makeFunc fn first cap).run Try.prog w = .ok (.func fn first cap) w := fun _ _ _ _ => rfl
  have hFew := few_any A0 n0 c0 w.heap.size z0 w r0 (Nat.le_refl _) m0
  have HFew := Lib.hid hFew
  clear hFew r0 o0 m0 w1
  go_enter Try.func4, Try.ntmps4
  go_wp2_with fail
  refine (HFew.out).mono ?_
  intro e w1 hP
  obtain ⟨A, c, n, S, rfl, ho, hS, hn, hb1⟩ := hP
  have hd1 : Blk (w1.alloc (.cells #[.slice A n c, .int .i64 0, .int .i64 a1] 27)) w1.heap.size 27 (dcells A n c 0 a1) := Blk.new w1 27 _
  have hr1 : Reads (w1.alloc (.cells #[.slice A n c, .int .i64 0, .int .i64 a1] 27)) w1.heap.size 5 A n (iv S) := (Reads.of_own ho).alloc (Nat.le_refl _) _
  have HS := Lib.hid hS
  have HD1 := Lib.hid hd1
  have HR1 := Lib.hid hr1
  clear hS hd1 hr1 ho
  have kb1 : Below w.heap.size w (w1.alloc (.cells #[.slice A n c, .int .i64 0, .int .i64 a1] 27)) := hb1.alloc hb1.size _
  have hgw : w.heap.size ≤ w1.heap.size := hb1.size
  obtain ⟨g, hg⟩ : ∃ g, w1.heap.size = g := ⟨_, rfl⟩
  have HG := Lib.hid hg
  clear hg
  go_wp2_with fail
  refine (lives5 _).mono ?_
  rintro e w2 ⟨rfl, hb2⟩
  have hd2 := HD1.out.below hb2 HD1.out.lt
  have hr2 := HR1.out.below (hb2.mono (Nat.le_of_lt HD1.out.lt))
  have kb2 : Below w.heap.size w w2 := kb1.trans (hb2.mono kb1.size)
  rw [HG.out] at hd2 hr2 hgw
  rw [HG.out]
  obtain ⟨⟨o, q⟩, hp⟩ : ∃ p, allGo S n 0 = p := ⟨_, rfl⟩
  have HP := Lib.hid hp
  clear hb1 hb2 kb1 HD1 HR1 HFew hp
  have hq : q ≤ n := by have h := (allGo_le S n 0).2; rw [HP.out] at h; simpa using h
  have e0 : w2.cell? ⟨g, 0, none⟩ = some (.slice A n c) := by rw [hd2.cell]; rfl
  have z2 := hd2.lt
  have h3 := rall_any n c g A S w2 hr2 (Nat.le_of_lt z2) (by omega)
  unfold AllP at h3
  rw [HP.out] at h3
  have H3 := Lib.hid h3
  have HD2 := Lib.hid hd2
  have HR2 := Lib.hid hr2
  clear h3 hd2 hr2
  go_wp2_with fail
  refine (H3.out).mono ?_
  intro e w3 hP
  obtain ⟨he, hb3⟩ := hP
  obtain rfl : e = .returned (.tuple #[.agg #[.int .i64 (oA o), .int .i64 (oC o)], .bool o.isSome, .int .i64 q]) := he
  have hd3 := (HD2.out.below hb3 z2).alloc (.cells #[.int .i64 (oA o), .int .i64 (oC o)] 30)
  have hr3 := (HR2.out.below (hb3.mono (Nat.le_of_lt z2))).alloc (Nat.le_trans (Nat.le_of_lt z2) hb3.size) (.cells #[.int .i64 (oA o), .int .i64 (oC o)] 30)
  have hf3 := Blk.new w3 30 #[.int .i64 (oA o), .int .i64 (oC o)]
  have kb3 : Below w.heap.size w (w3.alloc (.cells #[.int .i64 (oA o), .int .i64 (oC o)] 30)) := (kb2.trans (hb3.mono kb2.size)).alloc (Nat.le_trans kb2.size hb3.size) _
  have z3 : g < w3.heap.size := Nat.lt_of_lt_of_le z2 hb3.size
  have h4 := code_coded g n c g A 0 a1 S _ hd3 hr3 (Nat.le_refl _) HS (by omega) (by omega)
  rw [HP.out] at h4
  have H4 := Lib.hid h4
  have HR3 := Lib.hid hr3
  have HF3 := Lib.hid hf3
  clear h4 hd3 hr3 hf3 hb3 H3 HD2 HR2 e0 kb2
  go_wp2_with fail
  refine (H4.out).mono ?_
  intro e w4 hP
  obtain ⟨rfl, hd4, ho4⟩ := hP
  have hz3 : (w3.alloc (.cells #[.int .i64 (oA o), .int .i64 (oC o)] 30)).heap.size = w3.heap.size + 1 := by simp
  have hr4 := ho4.reads HR3.out (by rw [hz3]; omega) (fun i hi h => by omega)
  have hf4 := ho4.blk HF3.out (fun h => by omega)
  have kb4 : Below w.heap.size w w4 := kb3.trans (ho4.below kb3.size (fun i hi h => by omega))
  have z4 := hd4.lt
  have z5 := hf4.lt
  have h5 := value_coded g n c g A (0 + (q : Int)) a1 S w4 hd4 hr4 (Nat.le_refl _) HS (by omega) (by omega)
  rw [HP.out] at h5
  have H5 := Lib.hid h5
  have HF4 := Lib.hid hf4
  clear h5 hd4 hr4 hf4 ho4 H4 HR3 HF3 kb3 hz3
  go_wp2_with fail
  refine (H5.out).mono ?_
  intro e w5 hP
  obtain ⟨rfl, hd5, ho5⟩ := hP
  have hf5 := ho5.blk HF4.out (fun h => by omega)
  have kb5 : Below w.heap.size w w5 := kb4.trans (ho5.below kb4.size (fun i hi h => by omega))
  have e3 : w5.cell? ⟨w3.heap.size, 1, none⟩ = some (.int .i64 (oC o)) := by rw [hf5.cell]; rfl
  clear hd5 ho5 hf5 HF4 H5 HP HS hq
  cases o with
  | none =>
    have e3' : w5.cell? ⟨w3.heap.size, 1, none⟩ = some (.int .i64 0) := e3
    clear e3
    go_wp2_with fail
    go_ret
    exact ⟨rfl, kb5⟩
  | some f =>
    obtain ⟨a, cc⟩ := f
    have e3' : w5.cell? ⟨w3.heap.size, 1, none⟩ = some (.int .i64 cc) := e3
    have k1 : codeOf 0 (some (a, cc)) = cc := rfl
    have k2 : codeOf a1 (some (a, cc)) = cc := rfl
    have k3 : eAt a1 (some (a, cc)) = 0 := rfl
    clear e3
    go_wp2_with fail
    go_ret
    exact ⟨rfl, kb5⟩
set_option maxRecDepth 100000 in
theorem lifted (os : Os) (started : os.Started) (H : Type) (enc : TypeId × Value → H) :
    ReturnsInHanded {} Try.checked os 4 .any (Rows.trapCodesSpec.pre6 enc Try.prog Try.f4 Rows.trapCodesRow.domain false) (Rows.trapCodesSpec.post enc Try.prog Try.f4 false true false false) := by
  refine returnsInHanded_of_change (C := Try.checked) own started (by kernel_rfl) Try.func4
    (ChangeSpec.witness6 (enc := enc) (C := Try.checked) false ⟨#[], #[.slice none 0 0, .int .i64 0], []⟩ 8 (by kernel_rfl) (by kernel_rfl) (by kernel_rfl) (by kernel_rfl)) ?_
  intro W base args ds gs before hval0 hW hcnd _
  have hval : ∀ (j : Nat) t v, Try.f4.params[j]? = some t → args[j]? = some v → Value.okWide Try.prog W .any base t v := hval0
  have hW' := hW
  obtain ⟨p, q, hA0, hV, rfl, hfz, hnd⟩ := hW
  have hA : DataW.TrodAll enc Try.prog W 0 (fun _ => true) true Try.f4.params.toList args.toList ds p := hA0
  rw [Try.params4] at hA hval
  obtain ⟨v0, vs0, d0, ds0, p0, q0, hargs, rfl, rfl, h0, rr0⟩ := trodAll_cons hA
  obtain ⟨v1, vs1, d1, ds1, p1, q1, rfl, rfl, rfl, h1, rr1⟩ := trodAll_cons rr0
  obtain ⟨rfl, rfl, rfl⟩ := trodAll_nil rr1
  obtain rfl : args = #[v0, v1] := by cases args; simp_all
  obtain ⟨rfl, rfl⟩ := trodVars_none hV
  have k0 := h0
  have lt0 : ∀ x ∈ p0, x.block < W.heap.size := by obtain ⟨m, hm⟩ := k0; exact DataW.trod_lt m _ _ _ hm
  obtain ⟨A0, n0, c0, rfl⟩ := okWide_slice Try.underlying22 (hval 0 22 v0 rfl rfl)
  obtain ⟨z0, r0, o0, m0⟩ := rows_open (F := 5) Try.underlying22 Try.underlying94 (by kernel_rfl) (by kernel_rfl) rfl (by decide) (by intro j f hj; match j, hj with | 0, hj => cases hj; exact Try.underlying3 | 1, hj => cases hj; exact Try.underlying3 | 2, hj => cases hj; exact Try.underlying25 | 3, hj => cases hj; exact Try.underlying3 | 4, hj => cases hj; exact Try.underlying3 | j + 5, hj => simp at hj) h0
  have k1 := h1
  have lt1 : ∀ x ∈ p1, x.block < W.heap.size := by obtain ⟨m, hm⟩ := k1; exact DataW.trod_lt m _ _ _ hm
  obtain ⟨a1, rfl, _, _, w1⟩ := open_int Try.underlying25 (hval 1 25 v1 rfl rfl) h1
  clear hA0 hval0
  refine (walk A0 n0 c0 z0 a1 W r0 o0 m0 w1).mono fun e W' ⟨he, bel⟩ => ?_
  subst he
  exact ⟨_, rfl, _, _, _, [], _, [], hW', trodAll_mk1 (shut_bool Try.underlying4 _), (trodAll_cons_mk (Below.trod laidOut (by kernel_rfl) (of_decide_eq_true (by kernel_rfl)) k0 bel lt0) (trodAll_cons_mk (Below.trod laidOut (by kernel_rfl) (of_decide_eq_true (by kernel_rfl)) k1 bel lt1) trodAll_mk0)), rfl, bel.frame _, fun h => by cases h⟩

theorem over : Rows.trapCodesRow.holds Try.pinned (OpenSpec.ofChange Rows.trapCodesSpec) :=
  OpenClaim.holds_of_wide 4 Try.f4 rfl rfl rfl rfl rfl rfl rfl ⟨rfl, rfl, rfl, rfl, rfl⟩ rfl rfl rfl rfl rfl (by kernel_rfl) Try.func4 (by kernel_rfl)
    (of_decide_eq_true (by kernel_rfl)) (by unfold Func.isWrapper; first | (rw [if_pos (by decide +kernel)]; kernel_rfl) | (rw [if_neg (by decide +kernel)]; exact ⟨rfl, rfl⟩))
    (fun os started H enc _ => lifted os started H enc)

theorem proved : Rows.TrapCodesSaid := over
#print axioms proved
end Go.Proofs.Ytmmmhkpekaimeaa.trapCodes
