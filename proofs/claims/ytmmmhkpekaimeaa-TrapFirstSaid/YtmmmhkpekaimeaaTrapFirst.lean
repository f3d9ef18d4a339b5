/- Which of several is the first that errs, and that none behind it is called, is as the document says. No condition. -/
import Derived.Test.YtmmmhkpekaimeaaRows
import Derived.WalkKit
import Derived.ProofKit
import Derived.OpenShut
import Derived.ChangeOld
import Derived.Below
import Derived.Outline
import Derived.Lib.SmallJoins
import Derived.Test.YtmmmhkpekaimeaaT10
import Derived.Deep.RegionHeld3
import Derived.Deep.DeepCutAuto
set_option linter.unusedVariables false
namespace Go.Proofs.Ytmmmhkpekaimeaa.trapFirst
open Go.ChangeShapes Go.WideShapes Go.ChangeAt Go.RowKit Go.Joins

theorem own : ownKnob Try.prog.godebug = none := by kernel_rfl
theorem laidOut : laidOutB Try.prog = true := by kernel_rfl

set_option maxRecDepth 100000 in
set_option maxHeartbeats 16000000 in
theorem walk (A0 : Option Addr) (n0 c0 : Nat) (z0 : List Int) (A1 : Option Addr) (n1 c1 : Nat) (z1 : List Int) (A2 : Option Addr) (n2 c2 : Nat) (z2 : List Int) (w : World) (r0 : Reads w w.heap.size 5 A0 n0 (iv z0)) (o0 : okAll z0) (m0 : n0 ≤ c0 ∧ c0 ≤ maxLen) (r1 : Reads w w.heap.size 5 A1 n1 (iv z1)) (o1 : okAll z1) (m1 : n1 ≤ c1 ∧ c1 ≤ maxLen) (r2 : Reads w w.heap.size 5 A2 n2 (iv z2)) (o2 : okAll z2) (m2 : n2 ≤ c2 ∧ c2 ≤ maxLen) :
    Calls Try.prog 6 #[.slice A0 n0 c0, .slice A1 n1 c1, .slice A2 n2 c2] w fun e w' => e = .returned (.bool true) ∧ Below w.heap.size w w' := by
  have hmf : ∀ (fn : Fn) (first cap : Array Value) (w : World), (Instr.makeFunc fn first cap).run Try.prog w = .ok (.func fn first cap) w := fun _ _ _ _ => rfl
  have R0 := Lib.hid r0
  have R1 := Lib.hid r1
  have R2 := Lib.hid r2
  clear r0 r1 r2 o0 o1 o2
  go_enter Try.func6, Try.ntmps6
  go_wp2_with fail
  have hFew := few_any A0 n0 c0 w.heap.size z0 w (R0.out) (Nat.le_refl _) m0
  have HFew := Lib.hid hFew
  clear hFew
  refine (HFew.out).mono ?_
  intro e u0 hP
  obtain ⟨E0, k0, l0, S0, rfl, hw0, hS0, hn0, hb0⟩ := hP
  have HS0 := Lib.hid hS0
  have d0 : Dr (u0.alloc (.cells #[.slice E0 l0 k0, .int .i64 0, .int .i64 0] 27)) w.heap.size u0.heap.size l0 k0 E0 S0 0 := ⟨Blk.new u0 27 _, hw0.alloc _, fun b hb => (hw0.lt b hb).2, hb0.size⟩
  have k_0 : Below w.heap.size w (u0.alloc (.cells #[.slice E0 l0 k0, .int .i64 0, .int .i64 0] 27)) := hb0.alloc hb0.size _
  have y0 := hb0.size
  clear hw0 hS0 hb0 HFew
  go_wp2_with fail
  have hFew := few_any A1 n1 c1 w.heap.size z1 (u0.alloc (.cells #[.slice E0 l0 k0, .int .i64 0, .int .i64 0] 27)) (R1.out.below k_0) (k_0.size) m1
  have HFew := Lib.hid hFew
  clear hFew
  refine (HFew.out).mono ?_
  intro e u1 hP
  obtain ⟨E1, k1, l1, S1, rfl, hw1, hS1, hn1, hb1⟩ := hP
  have HS1 := Lib.hid hS1
  have d1 : Dr (u1.alloc (.cells #[.slice E1 l1 k1, .int .i64 0, .int .i64 0] 27)) (u0.alloc (.cells #[.slice E0 l0 k0, .int .i64 0, .int .i64 0] 27)).heap.size u1.heap.size l1 k1 E1 S1 0 := ⟨Blk.new u1 27 _, hw1.alloc _, fun b hb => (hw1.lt b hb).2, hb1.size⟩
  have k_1 : Below w.heap.size w (u1.alloc (.cells #[.slice E1 l1 k1, .int .i64 0, .int .i64 0] 27)) := k_0.trans ((hb1.alloc hb1.size _).mono k_0.size)
  have y1 := hb1.size
  have d0 := d0.keep (P := fun _ => False) (Only.of_below (hb1.alloc hb1.size (.cells #[.slice E1 l1 k1, .int .i64 0, .int .i64 0] 27))) (fun _ _ _ h => h)
  clear hw1 hS1 hb1 HFew
  go_wp2_with fail
  have hFew := few_any A2 n2 c2 w.heap.size z2 (u1.alloc (.cells #[.slice E1 l1 k1, .int .i64 0, .int .i64 0] 27)) (R2.out.below k_1) (k_1.size) m2
  have HFew := Lib.hid hFew
  clear hFew
  refine (HFew.out).mono ?_
  intro e u2 hP
  obtain ⟨E2, k2, l2, S2, rfl, hw2, hS2, hn2, hb2⟩ := hP
  have HS2 := Lib.hid hS2
  have d2 : Dr (u2.alloc (.cells #[.slice E2 l2 k2, .int .i64 0, .int .i64 0] 27)) (u1.alloc (.cells #[.slice E1 l1 k1, .int .i64 0, .int .i64 0] 27)).heap.size u2.heap.size l2 k2 E2 S2 0 := ⟨Blk.new u2 27 _, hw2.alloc _, fun b hb => (hw2.lt b hb).2, hb2.size⟩
  have k_2 : Below w.heap.size w (u2.alloc (.cells #[.slice E2 l2 k2, .int .i64 0, .int .i64 0] 27)) := k_1.trans ((hb2.alloc hb2.size _).mono k_1.size)
  have y2 := hb2.size
  have d0 := d0.keep (P := fun _ => False) (Only.of_below (hb2.alloc hb2.size (.cells #[.slice E2 l2 k2, .int .i64 0, .int .i64 0] 27))) (fun _ _ _ h => h)
  have d1 := d1.keep (P := fun _ => False) (Only.of_below (hb2.alloc hb2.size (.cells #[.slice E2 l2 k2, .int .i64 0, .int .i64 0] 27))) (fun _ _ _ h => h)
  clear hw2 hS2 hb2 HFew
  have hL := Blk.new (u2.alloc (.cells #[.slice E2 l2 k2, .int .i64 0, .int .i64 0] 27)) 23 #[.pointer (some ⟨u0.heap.size, 0, none⟩), .pointer (some ⟨u1.heap.size, 0, none⟩), .pointer (some ⟨u2.heap.size, 0, none⟩)]
  have hs2 : (u2.alloc (.cells #[.slice E2 l2 k2, .int .i64 0, .int .i64 0] 27)).heap.size = u2.heap.size + 1 := by simp
  rw [hs2] at hL
  have e1 : u0.heap.size < u1.heap.size := by simp at y1; omega
  have e2 : u1.heap.size < u2.heap.size := by simp at y2; omega
  have hs0 : (u0.alloc (.cells #[.slice E0 l0 k0, .int .i64 0, .int .i64 0] 27)).heap.size = u0.heap.size + 1 := by simp
  have hs1 : (u1.alloc (.cells #[.slice E1 l1 k1, .int .i64 0, .int .i64 0] 27)).heap.size = u1.heap.size + 1 := by simp
  rw [hs0] at d1
  rw [hs1] at d2
  have kL : Below w.heap.size w ((u2.alloc (.cells #[.slice E2 l2 k2, .int .i64 0, .int .i64 0] 27)).alloc (.cells #[.pointer (some ⟨u0.heap.size, 0, none⟩), .pointer (some ⟨u1.heap.size, 0, none⟩), .pointer (some ⟨u2.heap.size, 0, none⟩)] 23)) := k_2.alloc k_2.size _
  have h0w : w.heap.size ≤ u0.heap.size := y0
  go_wp2_with fail
  refine (lives5 _).mono ?_
  rintro e x0 ⟨rfl, hbx⟩
  have hoL : Only (fun _ => False) (u2.alloc (.cells #[.slice E2 l2 k2, .int .i64 0, .int .i64 0] 27)) x0 := (only_new _ _).trans (Only.of_below (S := fun _ => False) hbx) (fun _ _ h => h)
  have D0 := d0.keep hoL (fun _ _ _ h => h)
  have D1 := d1.keep hoL (fun _ _ _ h => h)
  have D2 := d2.keep hoL (fun _ _ _ h => h)
  have LL := hL.below hbx (by simp)
  have kx : Below w.heap.size w x0 := kL.trans (hbx.mono kL.size)
  obtain ⟨g0, hg0⟩ : ∃ g, u0.heap.size = g := ⟨_, rfl⟩
  obtain ⟨g1, hg1⟩ : ∃ g, u1.heap.size = g := ⟨_, rfl⟩
  obtain ⟨g2, hg2⟩ : ∃ g, u2.heap.size = g := ⟨_, rfl⟩
  rw [hg0, hg1, hg2] at LL
  rw [hg0] at D0 D1 h0w e1
  rw [hg1] at D1 D2 e1 e2
  rw [hg2] at D2 e2
  rw [hg0, hg1, hg2]
  have HD0 := Lib.hid D0
  have HD1 := Lib.hid D1
  have HD2 := Lib.hid D2
  have HL := Lib.hid LL
  have i0 : x0.cell? ⟨g2 + 1, 0, none⟩ = some (.pointer (some ⟨g0, 0, none⟩)) := by rw [LL.cell]; rfl
  have i1 : x0.cell? ⟨g2 + 1, 1, none⟩ = some (.pointer (some ⟨g1, 0, none⟩)) := by rw [LL.cell]; rfl
  have i2 : x0.cell? ⟨g2 + 1, 2, none⟩ = some (.pointer (some ⟨g2, 0, none⟩)) := by rw [LL.cell]; rfl
  have zx := LL.lt
  clear d0 d1 d2 hL hs2 y0 y1 y2 k_0 k_1 k_2 kL hbx hoL D0 D1 D2 LL hs0 hs1 R0 R1 R2 m0 m1 m2 hg0 hg1 hg2
  obtain ⟨⟨p0, q0⟩, hp0⟩ : ∃ p, allGo S0 l0 0 = p := ⟨_, rfl⟩
  obtain ⟨⟨p1, q1⟩, hp1⟩ : ∃ p, allGo S1 l1 0 = p := ⟨_, rfl⟩
  obtain ⟨⟨p2, q2⟩, hp2⟩ : ∃ p, allGo S2 l2 0 = p := ⟨_, rfl⟩
  have HP0 := Lib.hid hp0
  have HP1 := Lib.hid hp1
  have HP2 := Lib.hid hp2
  have Hn : Hid (l0 ≤ 1000 ∧ l1 ≤ 1000 ∧ l2 ≤ 1000) := Lib.hid ⟨by omega, by omega, by omega⟩
  clear hp0 hp1 hp2 hn0 hn1 hn2
  go_upto_region 4 with fail
  cases p0 with
  | some f =>
    obtain ⟨a, cc⟩ := f
    go_cut [8, 9] (fun s8 s9 wx => s8 = .int .i64 0 ∧ s9 = .int .i64 cc ∧ Dr wx w.heap.size g0 l0 k0 E0 S0 (0 + ((allGo S0 l0 0).2 : Int)) ∧ Dr wx (g0 + 1) g1 l1 k1 E1 S1 0 ∧ Dr wx (g1 + 1) g2 l2 k2 E2 S2 0 ∧ Blk wx (g2 + 1) 23 #[.pointer (some ⟨g0, 0, none⟩), .pointer (some ⟨g1, 0, none⟩), .pointer (some ⟨g2, 0, none⟩)] ∧ Below w.heap.size w wx)
    case first =>
      go_region_held3 (fun w' => w'.cell? ⟨g2 + 1, 0, none⟩ = some (.pointer (some ⟨g0, 0, none⟩)) ∧ w'.cell? ⟨g2 + 1, 1, none⟩ = some (.pointer (some ⟨g1, 0, none⟩)) ∧ w'.cell? ⟨g2 + 1, 2, none⟩ = some (.pointer (some ⟨g2, 0, none⟩))) (first | exact ⟨i0, i1, i2⟩ | exact ⟨ic0, ic1, ic2⟩ | ((repeat' apply And.intro) <;> first | (go_keep; done) | (go_simp; done))) (first | (go_at_call 23; refine (first_0 w.heap.size g0 l0 k0 E0 S0 (g0 + 1) g1 l1 k1 E1 S1 (g1 + 1) g2 l2 k2 E2 S2 _ _ a cc _ (HD0.out.keep (P := fun _ => False) (by first | exact (Only.refl _ _).alloc _ | exact ((Only.refl _ _).drew).alloc _ | exact ((Only.refl _ _).alloc _).drew) (fun _ _ _ h => h)) (HD1.out.keep (P := fun _ => False) (by first | exact (Only.refl _ _).alloc _ | exact ((Only.refl _ _).drew).alloc _ | exact ((Only.refl _ _).alloc _).drew) (fun _ _ _ h => h)) (HD2.out.keep (P := fun _ => False) (by first | exact (Only.refl _ _).alloc _ | exact ((Only.refl _ _).drew).alloc _ | exact ((Only.refl _ _).alloc _).drew) (fun _ _ _ h => h)) HS0 Hn.out.1 HS1 Hn.out.2.1 HS2 Hn.out.2.2 (by omega) (by omega) (by exact Blk.new _ _ _) (by rw [HP0.out])).mono ?_; rintro e wx ⟨he, dd0, dd1, dd2, hox⟩; obtain rfl : e = .returned (.tuple #[.int .i64 0, .int .i64 cc]) := he; have hxx : Only (fun b => b = g0 ∨ b = g1 ∨ b = g2) x0 wx := Only.trans (by first | exact (Only.refl _ _).alloc _ | exact ((Only.refl _ _).drew).alloc _ | exact ((Only.refl _ _).alloc _).drew) hox (fun _ _ h => h); have HLx := hxx.blk HL.out (fun h => by omega); have ic0 : wx.cell? ⟨g2 + 1, 0, none⟩ = some (.pointer (some ⟨g0, 0, none⟩)) := (by rw [HLx.cell]; rfl); have ic1 : wx.cell? ⟨g2 + 1, 1, none⟩ = some (.pointer (some ⟨g1, 0, none⟩)) := (by rw [HLx.cell]; rfl); have ic2 : wx.cell? ⟨g2 + 1, 2, none⟩ = some (.pointer (some ⟨g2, 0, none⟩)) := (by rw [HLx.cell]; rfl)))
      all_goals (go_wp2_with fail; go_meet; exact ⟨rfl, rfl, dd0, dd1, dd2, HLx, kx.trans (hxx.below kx.size (fun i hi h => by omega))⟩)
    clear i0 i1 i2 HD0 HD1 HD2 HL kx zx
    obtain ⟨rfl, rfl, hd0, hd1, hd2, hl, kn⟩ := hcut
    rw [HP0.out, Int.zero_add] at hd0
    have HD0 : Hid (Dr wc w.heap.size g0 l0 k0 E0 S0 (q0 : Int)) := Lib.hid hd0
    have HD1 := Lib.hid hd1
    have HD2 := Lib.hid hd2
    have HL := Lib.hid hl
    clear hl hd0 hd1 hd2
    go_wp2_with fail
    refine wp_loop_rounds 4 ?_
    have c7 : wc.cell? ⟨g2 + 1, 0, none⟩ = some (.pointer (some ⟨g0, 0, none⟩)) := by rw [HL.out.cell]; rfl
    have c8 : wc.cell? ⟨g0, 0, none⟩ = some (.slice E0 l0 k0) := by rw [HD0.out.1.cell]; rfl
    have h4 := rall_any l0 k0 g0 E0 S0 wc HD0.out.reads (Nat.le_of_lt HD0.out.1.lt) Hn.out.1
    unfold AllP at h4
    rw [HP0.out] at h4
    have H4 := Lib.hid h4
    clear h4
    rw [rounds_succ]
    go_wp2_with fail
    refine (H4.out).mono ?_
    intro e v0 hP
    obtain ⟨he, hb⟩ := hP
    obtain rfl : e = .returned (.tuple #[.agg #[.int .i64 a, .int .i64 cc], .bool true, .int .i64 (q0 : Int)]) := he
    have c9 : v0.cell? ⟨g0, 1, none⟩ = some (.int .i64 (q0 : Int)) := by rw [(HD0.out.1.below hb HD0.out.1.lt).cell]; rfl
    have z9 : g0 < v0.heap.size := Nat.lt_of_lt_of_le HD0.out.1.lt hb.size
    have c10 : v0.cell? ⟨g2 + 1, 0, none⟩ = some (.pointer (some ⟨g0, 0, none⟩)) := by rw [(HL.out.below hb HL.out.lt).cell]; rfl
    have z10 : g2 + 1 < v0.heap.size := Nat.lt_of_lt_of_le HL.out.lt hb.size
    have ho := Only.of_below (S := fun _ => False) (hb.alloc hb.size (.cells #[.int .i64 a, .int .i64 cc] 30))
    have kn0 : Below w.heap.size w (v0.alloc (.cells #[.int .i64 a, .int .i64 cc] 30)) := kn.trans ((hb.alloc hb.size _).mono kn.size)
    have HL := Lib.hid (ho.blk HL.out (fun h => h))
    have HD0 := Lib.hid (HD0.out.keep ho (fun _ _ _ h => h))
    have HD1 := Lib.hid (HD1.out.keep ho (fun _ _ _ h => h))
    have HD2 := Lib.hid (HD2.out.keep ho (fun _ _ _ h => h))
    clear H4 ho hb c7 c8 kn
    go_wp2_with fail
    go_quiet (fail)
    go_wp2_with fail
    have od : Only (fun _ => False) (v0.alloc (.cells #[.int .i64 a, .int .i64 cc] 30)) ((v0.alloc (.cells #[.int .i64 a, .int .i64 cc] 30)).drewN nq) := (Only.refl _ _).drewN nq
    have HL := Lib.hid (od.blk HL.out (fun h => h))
    have HD0 := Lib.hid (HD0.out.keep od (fun _ _ _ h => h))
    have HD1 := Lib.hid (HD1.out.keep od (fun _ _ _ h => h))
    have HD2 := Lib.hid (HD2.out.keep od (fun _ _ _ h => h))
    have kd0 : Below w.heap.size w ((v0.alloc (.cells #[.int .i64 a, .int .i64 cc] 30)).drewN nq) := below_drewN kn0 nq
    clear od
    have c7 : ((v0.alloc (.cells #[.int .i64 a, .int .i64 cc] 30)).drewN nq).cell? ⟨g2 + 1, 1, none⟩ = some (.pointer (some ⟨g1, 0, none⟩)) := by rw [HL.out.cell]; rfl
    have c8 : ((v0.alloc (.cells #[.int .i64 a, .int .i64 cc] 30)).drewN nq).cell? ⟨g1, 0, none⟩ = some (.slice E1 l1 k1) := by rw [HD1.out.1.cell]; rfl
    have h4 := rall_any l1 k1 g1 E1 S1 ((v0.alloc (.cells #[.int .i64 a, .int .i64 cc] 30)).drewN nq) HD1.out.reads (Nat.le_of_lt HD1.out.1.lt) Hn.out.2.1
    unfold AllP at h4
    rw [HP1.out] at h4
    have H4 := Lib.hid h4
    clear h4
    rw [rounds_succ]
    go_wp2_with fail
    refine (H4.out).mono ?_
    intro e v1 hP
    obtain ⟨he, hb⟩ := hP
    cases p1 with
    | none =>
      obtain rfl : e = .returned (.tuple #[.agg #[.int .i64 0, .int .i64 0], .bool false, .int .i64 (q1 : Int)]) := he
      have c9 : v1.cell? ⟨g1, 1, none⟩ = some (.int .i64 0) := by rw [(HD1.out.1.below hb HD1.out.1.lt).cell]; rfl
      have z9 : g1 < v1.heap.size := Nat.lt_of_lt_of_le HD1.out.1.lt hb.size
      have c10 : v1.cell? ⟨g2 + 1, 1, none⟩ = some (.pointer (some ⟨g1, 0, none⟩)) := by rw [(HL.out.below hb HL.out.lt).cell]; rfl
      have z10 : g2 + 1 < v1.heap.size := Nat.lt_of_lt_of_le HL.out.lt hb.size
      have ho := Only.of_below (S := fun _ => False) (hb.alloc hb.size (.cells #[.int .i64 0, .int .i64 0] 30))
      have kn1 : Below w.heap.size w (v1.alloc (.cells #[.int .i64 0, .int .i64 0] 30)) := kd0.trans ((hb.alloc hb.size _).mono kd0.size)
      have HL := Lib.hid (ho.blk HL.out (fun h => h))
      have HD0 := Lib.hid (HD0.out.keep ho (fun _ _ _ h => h))
      have HD1 := Lib.hid (HD1.out.keep ho (fun _ _ _ h => h))
      have HD2 := Lib.hid (HD2.out.keep ho (fun _ _ _ h => h))
      clear H4 ho hb c7 c8 kd0
      go_wp2_with fail
      have c7 : (v1.alloc (.cells #[.int .i64 0, .int .i64 0] 30)).cell? ⟨g2 + 1, 2, none⟩ = some (.pointer (some ⟨g2, 0, none⟩)) := by rw [HL.out.cell]; rfl
      have c8 : (v1.alloc (.cells #[.int .i64 0, .int .i64 0] 30)).cell? ⟨g2, 0, none⟩ = some (.slice E2 l2 k2) := by rw [HD2.out.1.cell]; rfl
      have h4 := rall_any l2 k2 g2 E2 S2 (v1.alloc (.cells #[.int .i64 0, .int .i64 0] 30)) HD2.out.reads (Nat.le_of_lt HD2.out.1.lt) Hn.out.2.2
      unfold AllP at h4
      rw [HP2.out] at h4
      have H4 := Lib.hid h4
      clear h4
      rw [rounds_succ]
      go_wp2_with fail
      refine (H4.out).mono ?_
      intro e v2 hP
      obtain ⟨he, hb⟩ := hP
      cases p2 with
      | none =>
        obtain rfl : e = .returned (.tuple #[.agg #[.int .i64 0, .int .i64 0], .bool false, .int .i64 (q2 : Int)]) := he
        have c9 : v2.cell? ⟨g2, 1, none⟩ = some (.int .i64 0) := by rw [(HD2.out.1.below hb HD2.out.1.lt).cell]; rfl
        have z9 : g2 < v2.heap.size := Nat.lt_of_lt_of_le HD2.out.1.lt hb.size
        have c10 : v2.cell? ⟨g2 + 1, 2, none⟩ = some (.pointer (some ⟨g2, 0, none⟩)) := by rw [(HL.out.below hb HL.out.lt).cell]; rfl
        have z10 : g2 + 1 < v2.heap.size := Nat.lt_of_lt_of_le HL.out.lt hb.size
        have ho := Only.of_below (S := fun _ => False) (hb.alloc hb.size (.cells #[.int .i64 0, .int .i64 0] 30))
        have kn2 : Below w.heap.size w (v2.alloc (.cells #[.int .i64 0, .int .i64 0] 30)) := kn1.trans ((hb.alloc hb.size _).mono kn1.size)
        have HL := Lib.hid (ho.blk HL.out (fun h => h))
        have HD0 := Lib.hid (HD0.out.keep ho (fun _ _ _ h => h))
        have HD1 := Lib.hid (HD1.out.keep ho (fun _ _ _ h => h))
        have HD2 := Lib.hid (HD2.out.keep ho (fun _ _ _ h => h))
        clear H4 ho hb c7 c8 kn1
        go_wp2_with fail
        rw [rounds_succ]
        go_wp2_with fail
        go_ret
        exact ⟨rfl, kn2⟩
      | some f =>
        obtain ⟨a2, f2⟩ := f
        obtain rfl : e = .returned (.tuple #[.agg #[.int .i64 a2, .int .i64 f2], .bool true, .int .i64 (q2 : Int)]) := he
        have c9 : v2.cell? ⟨g2, 1, none⟩ = some (.int .i64 0) := by rw [(HD2.out.1.below hb HD2.out.1.lt).cell]; rfl
        have z9 : g2 < v2.heap.size := Nat.lt_of_lt_of_le HD2.out.1.lt hb.size
        have c10 : v2.cell? ⟨g2 + 1, 2, none⟩ = some (.pointer (some ⟨g2, 0, none⟩)) := by rw [(HL.out.below hb HL.out.lt).cell]; rfl
        have z10 : g2 + 1 < v2.heap.size := Nat.lt_of_lt_of_le HL.out.lt hb.size
        have ho := Only.of_below (S := fun _ => False) (hb.alloc hb.size (.cells #[.int .i64 a2, .int .i64 f2] 30))
        have kn2 : Below w.heap.size w (v2.alloc (.cells #[.int .i64 a2, .int .i64 f2] 30)) := kn1.trans ((hb.alloc hb.size _).mono kn1.size)
        have HL := Lib.hid (ho.blk HL.out (fun h => h))
        have HD0 := Lib.hid (HD0.out.keep ho (fun _ _ _ h => h))
        have HD1 := Lib.hid (HD1.out.keep ho (fun _ _ _ h => h))
        have HD2 := Lib.hid (HD2.out.keep ho (fun _ _ _ h => h))
        clear H4 ho hb c7 c8 kn1
        go_wp2_with fail
        rw [rounds_succ]
        go_wp2_with fail
        go_ret
        exact ⟨rfl, kn2⟩
    | some f =>
      obtain ⟨a1, f1⟩ := f
      obtain rfl : e = .returned (.tuple #[.agg #[.int .i64 a1, .int .i64 f1], .bool true, .int .i64 (q1 : Int)]) := he
      have c9 : v1.cell? ⟨g1, 1, none⟩ = some (.int .i64 0) := by rw [(HD1.out.1.below hb HD1.out.1.lt).cell]; rfl
      have z9 : g1 < v1.heap.size := Nat.lt_of_lt_of_le HD1.out.1.lt hb.size
      have c10 : v1.cell? ⟨g2 + 1, 1, none⟩ = some (.pointer (some ⟨g1, 0, none⟩)) := by rw [(HL.out.below hb HL.out.lt).cell]; rfl
      have z10 : g2 + 1 < v1.heap.size := Nat.lt_of_lt_of_le HL.out.lt hb.size
      have ho := Only.of_below (S := fun _ => False) (hb.alloc hb.size (.cells #[.int .i64 a1, .int .i64 f1] 30))
      have kn1 : Below w.heap.size w (v1.alloc (.cells #[.int .i64 a1, .int .i64 f1] 30)) := kd0.trans ((hb.alloc hb.size _).mono kd0.size)
      have HL := Lib.hid (ho.blk HL.out (fun h => h))
      have HD0 := Lib.hid (HD0.out.keep ho (fun _ _ _ h => h))
      have HD1 := Lib.hid (HD1.out.keep ho (fun _ _ _ h => h))
      have HD2 := Lib.hid (HD2.out.keep ho (fun _ _ _ h => h))
      clear H4 ho hb c7 c8 kd0
      go_wp2_with fail
      have c7 : (v1.alloc (.cells #[.int .i64 a1, .int .i64 f1] 30)).cell? ⟨g2 + 1, 2, none⟩ = some (.pointer (some ⟨g2, 0, none⟩)) := by rw [HL.out.cell]; rfl
      have c8 : (v1.alloc (.cells #[.int .i64 a1, .int .i64 f1] 30)).cell? ⟨g2, 0, none⟩ = some (.slice E2 l2 k2) := by rw [HD2.out.1.cell]; rfl
      have h4 := rall_any l2 k2 g2 E2 S2 (v1.alloc (.cells #[.int .i64 a1, .int .i64 f1] 30)) HD2.out.reads (Nat.le_of_lt HD2.out.1.lt) Hn.out.2.2
      unfold AllP at h4
      rw [HP2.out] at h4
      have H4 := Lib.hid h4
      clear h4
      rw [rounds_succ]
      go_wp2_with fail
      refine (H4.out).mono ?_
      intro e v2 hP
      obtain ⟨he, hb⟩ := hP
      cases p2 with
      | none =>
        obtain rfl : e = .returned (.tuple #[.agg #[.int .i64 0, .int .i64 0], .bool false, .int .i64 (q2 : Int)]) := he
        have c9 : v2.cell? ⟨g2, 1, none⟩ = some (.int .i64 0) := by rw [(HD2.out.1.below hb HD2.out.1.lt).cell]; rfl
        have z9 : g2 < v2.heap.size := Nat.lt_of_lt_of_le HD2.out.1.lt hb.size
        have c10 : v2.cell? ⟨g2 + 1, 2, none⟩ = some (.pointer (some ⟨g2, 0, none⟩)) := by rw [(HL.out.below hb HL.out.lt).cell]; rfl
        have z10 : g2 + 1 < v2.heap.size := Nat.lt_of_lt_of_le HL.out.lt hb.size
        have ho := Only.of_below (S := fun _ => False) (hb.alloc hb.size (.cells #[.int .i64 0, .int .i64 0] 30))
        have kn2 : Below w.heap.size w (v2.alloc (.cells #[.int .i64 0, .int .i64 0] 30)) := kn1.trans ((hb.alloc hb.size _).mono kn1.size)
        have HL := Lib.hid (ho.blk HL.out (fun h => h))
        have HD0 := Lib.hid (HD0.out.keep ho (fun _ _ _ h => h))
        have HD1 := Lib.hid (HD1.out.keep ho (fun _ _ _ h => h))
        have HD2 := Lib.hid (HD2.out.keep ho (fun _ _ _ h => h))
        clear H4 ho hb c7 c8 kn1
        go_wp2_with fail
        rw [rounds_succ]
        go_wp2_with fail
        go_ret
        exact ⟨rfl, kn2⟩
      | some f =>
        obtain ⟨a2, f2⟩ := f
        obtain rfl : e = .returned (.tuple #[.agg #[.int .i64 a2, .int .i64 f2], .bool true, .int .i64 (q2 : Int)]) := he
        have c9 : v2.cell? ⟨g2, 1, none⟩ = some (.int .i64 0) := by rw [(HD2.out.1.below hb HD2.out.1.lt).cell]; rfl
        have z9 : g2 < v2.heap.size := Nat.lt_of_lt_of_le HD2.out.1.lt hb.size
        have c10 : v2.cell? ⟨g2 + 1, 2, none⟩ = some (.pointer (some ⟨g2, 0, none⟩)) := by rw [(HL.out.below hb HL.out.lt).cell]; rfl
        have z10 : g2 + 1 < v2.heap.size := Nat.lt_of_lt_of_le HL.out.lt hb.size
        have ho := Only.of_below (S := fun _ => False) (hb.alloc hb.size (.cells #[.int .i64 a2, .int .i64 f2] 30))
        have kn2 : Below w.heap.size w (v2.alloc (.cells #[.int .i64 a2, .int .i64 f2] 30)) := kn1.trans ((hb.alloc hb.size _).mono kn1.size)
        have HL := Lib.hid (ho.blk HL.out (fun h => h))
        have HD0 := Lib.hid (HD0.out.keep ho (fun _ _ _ h => h))
        have HD1 := Lib.hid (HD1.out.keep ho (fun _ _ _ h => h))
        have HD2 := Lib.hid (HD2.out.keep ho (fun _ _ _ h => h))
        clear H4 ho hb c7 c8 kn1
        go_wp2_with fail
        rw [rounds_succ]
        go_wp2_with fail
        go_ret
        exact ⟨rfl, kn2⟩
  | none =>
    cases p1 with
    | some f =>
      obtain ⟨a, cc⟩ := f
      go_cut [8, 9] (fun s8 s9 wx => s8 = .int .i64 1 ∧ s9 = .int .i64 cc ∧ Dr wx w.heap.size g0 l0 k0 E0 S0 (0 + ((allGo S0 l0 0).2 : Int)) ∧ Dr wx (g0 + 1) g1 l1 k1 E1 S1 (0 + ((allGo S1 l1 0).2 : Int)) ∧ Dr wx (g1 + 1) g2 l2 k2 E2 S2 0 ∧ Blk wx (g2 + 1) 23 #[.pointer (some ⟨g0, 0, none⟩), .pointer (some ⟨g1, 0, none⟩), .pointer (some ⟨g2, 0, none⟩)] ∧ Below w.heap.size w wx)
      case first =>
        go_region_held3 (fun w' => w'.cell? ⟨g2 + 1, 0, none⟩ = some (.pointer (some ⟨g0, 0, none⟩)) ∧ w'.cell? ⟨g2 + 1, 1, none⟩ = some (.pointer (some ⟨g1, 0, none⟩)) ∧ w'.cell? ⟨g2 + 1, 2, none⟩ = some (.pointer (some ⟨g2, 0, none⟩))) (first | exact ⟨i0, i1, i2⟩ | exact ⟨ic0, ic1, ic2⟩ | ((repeat' apply And.intro) <;> first | (go_keep; done) | (go_simp; done))) (first | (go_at_call 23; refine (first_1 w.heap.size g0 l0 k0 E0 S0 (g0 + 1) g1 l1 k1 E1 S1 (g1 + 1) g2 l2 k2 E2 S2 _ _ a cc _ (HD0.out.keep (P := fun _ => False) (by first | exact (Only.refl _ _).alloc _ | exact ((Only.refl _ _).drew).alloc _ | exact ((Only.refl _ _).alloc _).drew) (fun _ _ _ h => h)) (HD1.out.keep (P := fun _ => False) (by first | exact (Only.refl _ _).alloc _ | exact ((Only.refl _ _).drew).alloc _ | exact ((Only.refl _ _).alloc _).drew) (fun _ _ _ h => h)) (HD2.out.keep (P := fun _ => False) (by first | exact (Only.refl _ _).alloc _ | exact ((Only.refl _ _).drew).alloc _ | exact ((Only.refl _ _).alloc _).drew) (fun _ _ _ h => h)) HS0 Hn.out.1 HS1 Hn.out.2.1 HS2 Hn.out.2.2 (by omega) (by omega) (by exact Blk.new _ _ _) (by rw [HP0.out]) (by rw [HP1.out])).mono ?_; rintro e wx ⟨he, dd0, dd1, dd2, hox⟩; obtain rfl : e = .returned (.tuple #[.int .i64 1, .int .i64 cc]) := he; have hxx : Only (fun b => b = g0 ∨ b = g1 ∨ b = g2) x0 wx := Only.trans (by first | exact (Only.refl _ _).alloc _ | exact ((Only.refl _ _).drew).alloc _ | exact ((Only.refl _ _).alloc _).drew) hox (fun _ _ h => h); have HLx := hxx.blk HL.out (fun h => by omega); have ic0 : wx.cell? ⟨g2 + 1, 0, none⟩ = some (.pointer (some ⟨g0, 0, none⟩)) := (by rw [HLx.cell]; rfl); have ic1 : wx.cell? ⟨g2 + 1, 1, none⟩ = some (.pointer (some ⟨g1, 0, none⟩)) := (by rw [HLx.cell]; rfl); have ic2 : wx.cell? ⟨g2 + 1, 2, none⟩ = some (.pointer (some ⟨g2, 0, none⟩)) := (by rw [HLx.cell]; rfl)))
        all_goals (go_wp2_with fail; go_meet; exact ⟨rfl, rfl, dd0, dd1, dd2, HLx, kx.trans (hxx.below kx.size (fun i hi h => by omega))⟩)
      clear i0 i1 i2 HD0 HD1 HD2 HL kx zx
      obtain ⟨rfl, rfl, hd0, hd1, hd2, hl, kn⟩ := hcut
      rw [HP0.out, Int.zero_add] at hd0
      have HD0 : Hid (Dr wc w.heap.size g0 l0 k0 E0 S0 (q0 : Int)) := Lib.hid hd0
      rw [HP1.out, Int.zero_add] at hd1
      have HD1 : Hid (Dr wc (g0 + 1) g1 l1 k1 E1 S1 (q1 : Int)) := Lib.hid hd1
      have HD2 := Lib.hid hd2
      have HL := Lib.hid hl
      clear hl hd0 hd1 hd2
      go_wp2_with fail
      refine wp_loop_rounds 4 ?_
      have c7 : wc.cell? ⟨g2 + 1, 0, none⟩ = some (.pointer (some ⟨g0, 0, none⟩)) := by rw [HL.out.cell]; rfl
      have c8 : wc.cell? ⟨g0, 0, none⟩ = some (.slice E0 l0 k0) := by rw [HD0.out.1.cell]; rfl
      have h4 := rall_any l0 k0 g0 E0 S0 wc HD0.out.reads (Nat.le_of_lt HD0.out.1.lt) Hn.out.1
      unfold AllP at h4
      rw [HP0.out] at h4
      have H4 := Lib.hid h4
      clear h4
      rw [rounds_succ]
      go_wp2_with fail
      refine (H4.out).mono ?_
      intro e v0 hP
      obtain ⟨he, hb⟩ := hP
      obtain rfl : e = .returned (.tuple #[.agg #[.int .i64 0, .int .i64 0], .bool false, .int .i64 (q0 : Int)]) := he
      have c9 : v0.cell? ⟨g0, 1, none⟩ = some (.int .i64 (q0 : Int)) := by rw [(HD0.out.1.below hb HD0.out.1.lt).cell]; rfl
      have z9 : g0 < v0.heap.size := Nat.lt_of_lt_of_le HD0.out.1.lt hb.size
      have c10 : v0.cell? ⟨g2 + 1, 0, none⟩ = some (.pointer (some ⟨g0, 0, none⟩)) := by rw [(HL.out.below hb HL.out.lt).cell]; rfl
      have z10 : g2 + 1 < v0.heap.size := Nat.lt_of_lt_of_le HL.out.lt hb.size
      have ho := Only.of_below (S := fun _ => False) (hb.alloc hb.size (.cells #[.int .i64 0, .int .i64 0] 30))
      have kn0 : Below w.heap.size w (v0.alloc (.cells #[.int .i64 0, .int .i64 0] 30)) := kn.trans ((hb.alloc hb.size _).mono kn.size)
      have HL := Lib.hid (ho.blk HL.out (fun h => h))
      have HD0 := Lib.hid (HD0.out.keep ho (fun _ _ _ h => h))
      have HD1 := Lib.hid (HD1.out.keep ho (fun _ _ _ h => h))
      have HD2 := Lib.hid (HD2.out.keep ho (fun _ _ _ h => h))
      clear H4 ho hb c7 c8 kn
      go_wp2_with fail
      have c7 : (v0.alloc (.cells #[.int .i64 0, .int .i64 0] 30)).cell? ⟨g2 + 1, 1, none⟩ = some (.pointer (some ⟨g1, 0, none⟩)) := by rw [HL.out.cell]; rfl
      have c8 : (v0.alloc (.cells #[.int .i64 0, .int .i64 0] 30)).cell? ⟨g1, 0, none⟩ = some (.slice E1 l1 k1) := by rw [HD1.out.1.cell]; rfl
      have h4 := rall_any l1 k1 g1 E1 S1 (v0.alloc (.cells #[.int .i64 0, .int .i64 0] 30)) HD1.out.reads (Nat.le_of_lt HD1.out.1.lt) Hn.out.2.1
      unfold AllP at h4
      rw [HP1.out] at h4
      have H4 := Lib.hid h4
      clear h4
      rw [rounds_succ]
      go_wp2_with fail
      refine (H4.out).mono ?_
      intro e v1 hP
      obtain ⟨he, hb⟩ := hP
      obtain rfl : e = .returned (.tuple #[.agg #[.int .i64 a, .int .i64 cc], .bool true, .int .i64 (q1 : Int)]) := he
      have c9 : v1.cell? ⟨g1, 1, none⟩ = some (.int .i64 (q1 : Int)) := by rw [(HD1.out.1.below hb HD1.out.1.lt).cell]; rfl
      have z9 : g1 < v1.heap.size := Nat.lt_of_lt_of_le HD1.out.1.lt hb.size
      have c10 : v1.cell? ⟨g2 + 1, 1, none⟩ = some (.pointer (some ⟨g1, 0, none⟩)) := by rw [(HL.out.below hb HL.out.lt).cell]; rfl
      have z10 : g2 + 1 < v1.heap.size := Nat.lt_of_lt_of_le HL.out.lt hb.size
      have ho := Only.of_below (S := fun _ => False) (hb.alloc hb.size (.cells #[.int .i64 a, .int .i64 cc] 30))
      have kn1 : Below w.heap.size w (v1.alloc (.cells #[.int .i64 a, .int .i64 cc] 30)) := kn0.trans ((hb.alloc hb.size _).mono kn0.size)
      have HL := Lib.hid (ho.blk HL.out (fun h => h))
      have HD0 := Lib.hid (HD0.out.keep ho (fun _ _ _ h => h))
      have HD1 := Lib.hid (HD1.out.keep ho (fun _ _ _ h => h))
      have HD2 := Lib.hid (HD2.out.keep ho (fun _ _ _ h => h))
      clear H4 ho hb c7 c8 kn0
      go_wp2_with fail
      go_quiet (fail)
      go_wp2_with fail
      have od : Only (fun _ => False) (v1.alloc (.cells #[.int .i64 a, .int .i64 cc] 30)) ((v1.alloc (.cells #[.int .i64 a, .int .i64 cc] 30)).drewN nq) := (Only.refl _ _).drewN nq
      have HL := Lib.hid (od.blk HL.out (fun h => h))
      have HD0 := Lib.hid (HD0.out.keep od (fun _ _ _ h => h))
      have HD1 := Lib.hid (HD1.out.keep od (fun _ _ _ h => h))
      have HD2 := Lib.hid (HD2.out.keep od (fun _ _ _ h => h))
      have kd1 : Below w.heap.size w ((v1.alloc (.cells #[.int .i64 a, .int .i64 cc] 30)).drewN nq) := below_drewN kn1 nq
      clear od
      have c7 : ((v1.alloc (.cells #[.int .i64 a, .int .i64 cc] 30)).drewN nq).cell? ⟨g2 + 1, 2, none⟩ = some (.pointer (some ⟨g2, 0, none⟩)) := by rw [HL.out.cell]; rfl
      have c8 : ((v1.alloc (.cells #[.int .i64 a, .int .i64 cc] 30)).drewN nq).cell? ⟨g2, 0, none⟩ = some (.slice E2 l2 k2) := by rw [HD2.out.1.cell]; rfl
      have h4 := rall_any l2 k2 g2 E2 S2 ((v1.alloc (.cells #[.int .i64 a, .int .i64 cc] 30)).drewN nq) HD2.out.reads (Nat.le_of_lt HD2.out.1.lt) Hn.out.2.2
      unfold AllP at h4
      rw [HP2.out] at h4
      have H4 := Lib.hid h4
      clear h4
      rw [rounds_succ]
      go_wp2_with fail
      refine (H4.out).mono ?_
      intro e v2 hP
      obtain ⟨he, hb⟩ := hP
      cases p2 with
      | none =>
        obtain rfl : e = .returned (.tuple #[.agg #[.int .i64 0, .int .i64 0], .bool false, .int .i64 (q2 : Int)]) := he
        have c9 : v2.cell? ⟨g2, 1, none⟩ = some (.int .i64 0) := by rw [(HD2.out.1.below hb HD2.out.1.lt).cell]; rfl
        have z9 : g2 < v2.heap.size := Nat.lt_of_lt_of_le HD2.out.1.lt hb.size
        have c10 : v2.cell? ⟨g2 + 1, 2, none⟩ = some (.pointer (some ⟨g2, 0, none⟩)) := by rw [(HL.out.below hb HL.out.lt).cell]; rfl
        have z10 : g2 + 1 < v2.heap.size := Nat.lt_of_lt_of_le HL.out.lt hb.size
        have ho := Only.of_below (S := fun _ => False) (hb.alloc hb.size (.cells #[.int .i64 0, .int .i64 0] 30))
        have kn2 : Below w.heap.size w (v2.alloc (.cells #[.int .i64 0, .int .i64 0] 30)) := kd1.trans ((hb.alloc hb.size _).mono kd1.size)
        have HL := Lib.hid (ho.blk HL.out (fun h => h))
        have HD0 := Lib.hid (HD0.out.keep ho (fun _ _ _ h => h))
        have HD1 := Lib.hid (HD1.out.keep ho (fun _ _ _ h => h))
        have HD2 := Lib.hid (HD2.out.keep ho (fun _ _ _ h => h))
        clear H4 ho hb c7 c8 kd1
        go_wp2_with fail
        rw [rounds_succ]
        go_wp2_with fail
        go_ret
        exact ⟨rfl, kn2⟩
      | some f =>
        obtain ⟨a2, f2⟩ := f
        obtain rfl : e = .returned (.tuple #[.agg #[.int .i64 a2, .int .i64 f2], .bool true, .int .i64 (q2 : Int)]) := he
        have c9 : v2.cell? ⟨g2, 1, none⟩ = some (.int .i64 0) := by rw [(HD2.out.1.below hb HD2.out.1.lt).cell]; rfl
        have z9 : g2 < v2.heap.size := Nat.lt_of_lt_of_le HD2.out.1.lt hb.size
        have c10 : v2.cell? ⟨g2 + 1, 2, none⟩ = some (.pointer (some ⟨g2, 0, none⟩)) := by rw [(HL.out.below hb HL.out.lt).cell]; rfl
        have z10 : g2 + 1 < v2.heap.size := Nat.lt_of_lt_of_le HL.out.lt hb.size
        have ho := Only.of_below (S := fun _ => False) (hb.alloc hb.size (.cells #[.int .i64 a2, .int .i64 f2] 30))
        have kn2 : Below w.heap.size w (v2.alloc (.cells #[.int .i64 a2, .int .i64 f2] 30)) := kd1.trans ((hb.alloc hb.size _).mono kd1.size)
        have HL := Lib.hid (ho.blk HL.out (fun h => h))
        have HD0 := Lib.hid (HD0.out.keep ho (fun _ _ _ h => h))
        have HD1 := Lib.hid (HD1.out.keep ho (fun _ _ _ h => h))
        have HD2 := Lib.hid (HD2.out.keep ho (fun _ _ _ h => h))
        clear H4 ho hb c7 c8 kd1
        go_wp2_with fail
        rw [rounds_succ]
        go_wp2_with fail
        go_ret
        exact ⟨rfl, kn2⟩
    | none =>
      cases p2 with
      | some f =>
        obtain ⟨a, cc⟩ := f
        go_cut [8, 9] (fun s8 s9 wx => s8 = .int .i64 2 ∧ s9 = .int .i64 cc ∧ Dr wx w.heap.size g0 l0 k0 E0 S0 (0 + ((allGo S0 l0 0).2 : Int)) ∧ Dr wx (g0 + 1) g1 l1 k1 E1 S1 (0 + ((allGo S1 l1 0).2 : Int)) ∧ Dr wx (g1 + 1) g2 l2 k2 E2 S2 (0 + ((allGo S2 l2 0).2 : Int)) ∧ Blk wx (g2 + 1) 23 #[.pointer (some ⟨g0, 0, none⟩), .pointer (some ⟨g1, 0, none⟩), .pointer (some ⟨g2, 0, none⟩)] ∧ Below w.heap.size w wx)
        case first =>
          go_region_held3 (fun w' => w'.cell? ⟨g2 + 1, 0, none⟩ = some (.pointer (some ⟨g0, 0, none⟩)) ∧ w'.cell? ⟨g2 + 1, 1, none⟩ = some (.pointer (some ⟨g1, 0, none⟩)) ∧ w'.cell? ⟨g2 + 1, 2, none⟩ = some (.pointer (some ⟨g2, 0, none⟩))) (first | exact ⟨i0, i1, i2⟩ | exact ⟨ic0, ic1, ic2⟩ | ((repeat' apply And.intro) <;> first | (go_keep; done) | (go_simp; done))) (first | (go_at_call 23; refine (first_2 w.heap.size g0 l0 k0 E0 S0 (g0 + 1) g1 l1 k1 E1 S1 (g1 + 1) g2 l2 k2 E2 S2 _ _ a cc _ (HD0.out.keep (P := fun _ => False) (by first | exact (Only.refl _ _).alloc _ | exact ((Only.refl _ _).drew).alloc _ | exact ((Only.refl _ _).alloc _).drew) (fun _ _ _ h => h)) (HD1.out.keep (P := fun _ => False) (by first | exact (Only.refl _ _).alloc _ | exact ((Only.refl _ _).drew).alloc _ | exact ((Only.refl _ _).alloc _).drew) (fun _ _ _ h => h)) (HD2.out.keep (P := fun _ => False) (by first | exact (Only.refl _ _).alloc _ | exact ((Only.refl _ _).drew).alloc _ | exact ((Only.refl _ _).alloc _).drew) (fun _ _ _ h => h)) HS0 Hn.out.1 HS1 Hn.out.2.1 HS2 Hn.out.2.2 (by omega) (by omega) (by exact Blk.new _ _ _) (by rw [HP0.out]) (by rw [HP1.out]) (by rw [HP2.out])).mono ?_; rintro e wx ⟨he, dd0, dd1, dd2, hox⟩; obtain rfl : e = .returned (.tuple #[.int .i64 2, .int .i64 cc]) := he; have hxx : Only (fun b => b = g0 ∨ b = g1 ∨ b = g2) x0 wx := Only.trans (by first | exact (Only.refl _ _).alloc _ | exact ((Only.refl _ _).drew).alloc _ | exact ((Only.refl _ _).alloc _).drew) hox (fun _ _ h => h); have HLx := hxx.blk HL.out (fun h => by omega); have ic0 : wx.cell? ⟨g2 + 1, 0, none⟩ = some (.pointer (some ⟨g0, 0, none⟩)) := (by rw [HLx.cell]; rfl); have ic1 : wx.cell? ⟨g2 + 1, 1, none⟩ = some (.pointer (some ⟨g1, 0, none⟩)) := (by rw [HLx.cell]; rfl); have ic2 : wx.cell? ⟨g2 + 1, 2, none⟩ = some (.pointer (some ⟨g2, 0, none⟩)) := (by rw [HLx.cell]; rfl)))
          all_goals (go_wp2_with fail; go_meet; exact ⟨rfl, rfl, dd0, dd1, dd2, HLx, kx.trans (hxx.below kx.size (fun i hi h => by omega))⟩)
        clear i0 i1 i2 HD0 HD1 HD2 HL kx zx
        obtain ⟨rfl, rfl, hd0, hd1, hd2, hl, kn⟩ := hcut
        rw [HP0.out, Int.zero_add] at hd0
        have HD0 : Hid (Dr wc w.heap.size g0 l0 k0 E0 S0 (q0 : Int)) := Lib.hid hd0
        rw [HP1.out, Int.zero_add] at hd1
        have HD1 : Hid (Dr wc (g0 + 1) g1 l1 k1 E1 S1 (q1 : Int)) := Lib.hid hd1
        rw [HP2.out, Int.zero_add] at hd2
        have HD2 : Hid (Dr wc (g1 + 1) g2 l2 k2 E2 S2 (q2 : Int)) := Lib.hid hd2
        have HL := Lib.hid hl
        clear hl hd0 hd1 hd2
        go_wp2_with fail
        refine wp_loop_rounds 4 ?_
        have c7 : wc.cell? ⟨g2 + 1, 0, none⟩ = some (.pointer (some ⟨g0, 0, none⟩)) := by rw [HL.out.cell]; rfl
        have c8 : wc.cell? ⟨g0, 0, none⟩ = some (.slice E0 l0 k0) := by rw [HD0.out.1.cell]; rfl
        have h4 := rall_any l0 k0 g0 E0 S0 wc HD0.out.reads (Nat.le_of_lt HD0.out.1.lt) Hn.out.1
        unfold AllP at h4
        rw [HP0.out] at h4
        have H4 := Lib.hid h4
        clear h4
        rw [rounds_succ]
        go_wp2_with fail
        refine (H4.out).mono ?_
        intro e v0 hP
        obtain ⟨he, hb⟩ := hP
        obtain rfl : e = .returned (.tuple #[.agg #[.int .i64 0, .int .i64 0], .bool false, .int .i64 (q0 : Int)]) := he
        have c9 : v0.cell? ⟨g0, 1, none⟩ = some (.int .i64 (q0 : Int)) := by rw [(HD0.out.1.below hb HD0.out.1.lt).cell]; rfl
        have z9 : g0 < v0.heap.size := Nat.lt_of_lt_of_le HD0.out.1.lt hb.size
        have c10 : v0.cell? ⟨g2 + 1, 0, none⟩ = some (.pointer (some ⟨g0, 0, none⟩)) := by rw [(HL.out.below hb HL.out.lt).cell]; rfl
        have z10 : g2 + 1 < v0.heap.size := Nat.lt_of_lt_of_le HL.out.lt hb.size
        have ho := Only.of_below (S := fun _ => False) (hb.alloc hb.size (.cells #[.int .i64 0, .int .i64 0] 30))
        have kn0 : Below w.heap.size w (v0.alloc (.cells #[.int .i64 0, .int .i64 0] 30)) := kn.trans ((hb.alloc hb.size _).mono kn.size)
        have HL := Lib.hid (ho.blk HL.out (fun h => h))
        have HD0 := Lib.hid (HD0.out.keep ho (fun _ _ _ h => h))
        have HD1 := Lib.hid (HD1.out.keep ho (fun _ _ _ h => h))
        have HD2 := Lib.hid (HD2.out.keep ho (fun _ _ _ h => h))
        clear H4 ho hb c7 c8 kn
        go_wp2_with fail
        have c7 : (v0.alloc (.cells #[.int .i64 0, .int .i64 0] 30)).cell? ⟨g2 + 1, 1, none⟩ = some (.pointer (some ⟨g1, 0, none⟩)) := by rw [HL.out.cell]; rfl
        have c8 : (v0.alloc (.cells #[.int .i64 0, .int .i64 0] 30)).cell? ⟨g1, 0, none⟩ = some (.slice E1 l1 k1) := by rw [HD1.out.1.cell]; rfl
        have h4 := rall_any l1 k1 g1 E1 S1 (v0.alloc (.cells #[.int .i64 0, .int .i64 0] 30)) HD1.out.reads (Nat.le_of_lt HD1.out.1.lt) Hn.out.2.1
        unfold AllP at h4
        rw [HP1.out] at h4
        have H4 := Lib.hid h4
        clear h4
        rw [rounds_succ]
        go_wp2_with fail
        refine (H4.out).mono ?_
        intro e v1 hP
        obtain ⟨he, hb⟩ := hP
        obtain rfl : e = .returned (.tuple #[.agg #[.int .i64 0, .int .i64 0], .bool false, .int .i64 (q1 : Int)]) := he
        have c9 : v1.cell? ⟨g1, 1, none⟩ = some (.int .i64 (q1 : Int)) := by rw [(HD1.out.1.below hb HD1.out.1.lt).cell]; rfl
        have z9 : g1 < v1.heap.size := Nat.lt_of_lt_of_le HD1.out.1.lt hb.size
        have c10 : v1.cell? ⟨g2 + 1, 1, none⟩ = some (.pointer (some ⟨g1, 0, none⟩)) := by rw [(HL.out.below hb HL.out.lt).cell]; rfl
        have z10 : g2 + 1 < v1.heap.size := Nat.lt_of_lt_of_le HL.out.lt hb.size
        have ho := Only.of_below (S := fun _ => False) (hb.alloc hb.size (.cells #[.int .i64 0, .int .i64 0] 30))
        have kn1 : Below w.heap.size w (v1.alloc (.cells #[.int .i64 0, .int .i64 0] 30)) := kn0.trans ((hb.alloc hb.size _).mono kn0.size)
        have HL := Lib.hid (ho.blk HL.out (fun h => h))
        have HD0 := Lib.hid (HD0.out.keep ho (fun _ _ _ h => h))
        have HD1 := Lib.hid (HD1.out.keep ho (fun _ _ _ h => h))
        have HD2 := Lib.hid (HD2.out.keep ho (fun _ _ _ h => h))
        clear H4 ho hb c7 c8 kn0
        go_wp2_with fail
        have c7 : (v1.alloc (.cells #[.int .i64 0, .int .i64 0] 30)).cell? ⟨g2 + 1, 2, none⟩ = some (.pointer (some ⟨g2, 0, none⟩)) := by rw [HL.out.cell]; rfl
        have c8 : (v1.alloc (.cells #[.int .i64 0, .int .i64 0] 30)).cell? ⟨g2, 0, none⟩ = some (.slice E2 l2 k2) := by rw [HD2.out.1.cell]; rfl
        have h4 := rall_any l2 k2 g2 E2 S2 (v1.alloc (.cells #[.int .i64 0, .int .i64 0] 30)) HD2.out.reads (Nat.le_of_lt HD2.out.1.lt) Hn.out.2.2
        unfold AllP at h4
        rw [HP2.out] at h4
        have H4 := Lib.hid h4
        clear h4
        rw [rounds_succ]
        go_wp2_with fail
        refine (H4.out).mono ?_
        intro e v2 hP
        obtain ⟨he, hb⟩ := hP
        obtain rfl : e = .returned (.tuple #[.agg #[.int .i64 a, .int .i64 cc], .bool true, .int .i64 (q2 : Int)]) := he
        have c9 : v2.cell? ⟨g2, 1, none⟩ = some (.int .i64 (q2 : Int)) := by rw [(HD2.out.1.below hb HD2.out.1.lt).cell]; rfl
        have z9 : g2 < v2.heap.size := Nat.lt_of_lt_of_le HD2.out.1.lt hb.size
        have c10 : v2.cell? ⟨g2 + 1, 2, none⟩ = some (.pointer (some ⟨g2, 0, none⟩)) := by rw [(HL.out.below hb HL.out.lt).cell]; rfl
        have z10 : g2 + 1 < v2.heap.size := Nat.lt_of_lt_of_le HL.out.lt hb.size
        have ho := Only.of_below (S := fun _ => False) (hb.alloc hb.size (.cells #[.int .i64 a, .int .i64 cc] 30))
        have kn2 : Below w.heap.size w (v2.alloc (.cells #[.int .i64 a, .int .i64 cc] 30)) := kn1.trans ((hb.alloc hb.size _).mono kn1.size)
        have HL := Lib.hid (ho.blk HL.out (fun h => h))
        have HD0 := Lib.hid (HD0.out.keep ho (fun _ _ _ h => h))
        have HD1 := Lib.hid (HD1.out.keep ho (fun _ _ _ h => h))
        have HD2 := Lib.hid (HD2.out.keep ho (fun _ _ _ h => h))
        clear H4 ho hb c7 c8 kn1
        go_wp2_with fail
        go_quiet (fail)
        go_wp2_with fail
        have od : Only (fun _ => False) (v2.alloc (.cells #[.int .i64 a, .int .i64 cc] 30)) ((v2.alloc (.cells #[.int .i64 a, .int .i64 cc] 30)).drewN nq) := (Only.refl _ _).drewN nq
        have HL := Lib.hid (od.blk HL.out (fun h => h))
        have HD0 := Lib.hid (HD0.out.keep od (fun _ _ _ h => h))
        have HD1 := Lib.hid (HD1.out.keep od (fun _ _ _ h => h))
        have HD2 := Lib.hid (HD2.out.keep od (fun _ _ _ h => h))
        have kd2 : Below w.heap.size w ((v2.alloc (.cells #[.int .i64 a, .int .i64 cc] 30)).drewN nq) := below_drewN kn2 nq
        clear od
        rw [rounds_succ]
        go_wp2_with fail
        go_ret
        exact ⟨rfl, kd2⟩
      | none =>
        go_cut [8, 9] (fun s8 s9 wx => s8 = .int .i64 3 ∧ s9 = .int .i64 0 ∧ Dr wx w.heap.size g0 l0 k0 E0 S0 (0 + ((allGo S0 l0 0).2 : Int)) ∧ Dr wx (g0 + 1) g1 l1 k1 E1 S1 (0 + ((allGo S1 l1 0).2 : Int)) ∧ Dr wx (g1 + 1) g2 l2 k2 E2 S2 (0 + ((allGo S2 l2 0).2 : Int)) ∧ Blk wx (g2 + 1) 23 #[.pointer (some ⟨g0, 0, none⟩), .pointer (some ⟨g1, 0, none⟩), .pointer (some ⟨g2, 0, none⟩)] ∧ Below w.heap.size w wx)
        case first =>
          go_region_held3 (fun w' => w'.cell? ⟨g2 + 1, 0, none⟩ = some (.pointer (some ⟨g0, 0, none⟩)) ∧ w'.cell? ⟨g2 + 1, 1, none⟩ = some (.pointer (some ⟨g1, 0, none⟩)) ∧ w'.cell? ⟨g2 + 1, 2, none⟩ = some (.pointer (some ⟨g2, 0, none⟩))) (first | exact ⟨i0, i1, i2⟩ | exact ⟨ic0, ic1, ic2⟩ | ((repeat' apply And.intro) <;> first | (go_keep; done) | (go_simp; done))) (first | (go_at_call 23; refine (first_3 w.heap.size g0 l0 k0 E0 S0 (g0 + 1) g1 l1 k1 E1 S1 (g1 + 1) g2 l2 k2 E2 S2 _ _ _ (HD0.out.keep (P := fun _ => False) (by first | exact (Only.refl _ _).alloc _ | exact ((Only.refl _ _).drew).alloc _ | exact ((Only.refl _ _).alloc _).drew) (fun _ _ _ h => h)) (HD1.out.keep (P := fun _ => False) (by first | exact (Only.refl _ _).alloc _ | exact ((Only.refl _ _).drew).alloc _ | exact ((Only.refl _ _).alloc _).drew) (fun _ _ _ h => h)) (HD2.out.keep (P := fun _ => False) (by first | exact (Only.refl _ _).alloc _ | exact ((Only.refl _ _).drew).alloc _ | exact ((Only.refl _ _).alloc _).drew) (fun _ _ _ h => h)) HS0 Hn.out.1 HS1 Hn.out.2.1 HS2 Hn.out.2.2 (by omega) (by omega) (by exact Blk.new _ _ _) (by rw [HP0.out]) (by rw [HP1.out]) (by rw [HP2.out])).mono ?_; rintro e wx ⟨he, dd0, dd1, dd2, hox⟩; obtain rfl : e = .returned (.tuple #[.int .i64 3, .int .i64 0]) := he; have hxx : Only (fun b => b = g0 ∨ b = g1 ∨ b = g2) x0 wx := Only.trans (by first | exact (Only.refl _ _).alloc _ | exact ((Only.refl _ _).drew).alloc _ | exact ((Only.refl _ _).alloc _).drew) hox (fun _ _ h => h); have HLx := hxx.blk HL.out (fun h => by omega); have ic0 : wx.cell? ⟨g2 + 1, 0, none⟩ = some (.pointer (some ⟨g0, 0, none⟩)) := (by rw [HLx.cell]; rfl); have ic1 : wx.cell? ⟨g2 + 1, 1, none⟩ = some (.pointer (some ⟨g1, 0, none⟩)) := (by rw [HLx.cell]; rfl); have ic2 : wx.cell? ⟨g2 + 1, 2, none⟩ = some (.pointer (some ⟨g2, 0, none⟩)) := (by rw [HLx.cell]; rfl)))
          all_goals (go_wp2_with fail; go_meet; exact ⟨rfl, rfl, dd0, dd1, dd2, HLx, kx.trans (hxx.below kx.size (fun i hi h => by omega))⟩)
        clear i0 i1 i2 HD0 HD1 HD2 HL kx zx
        obtain ⟨rfl, rfl, hd0, hd1, hd2, hl, kn⟩ := hcut
        rw [HP0.out, Int.zero_add] at hd0
        have HD0 : Hid (Dr wc w.heap.size g0 l0 k0 E0 S0 (q0 : Int)) := Lib.hid hd0
        rw [HP1.out, Int.zero_add] at hd1
        have HD1 : Hid (Dr wc (g0 + 1) g1 l1 k1 E1 S1 (q1 : Int)) := Lib.hid hd1
        rw [HP2.out, Int.zero_add] at hd2
        have HD2 : Hid (Dr wc (g1 + 1) g2 l2 k2 E2 S2 (q2 : Int)) := Lib.hid hd2
        have HL := Lib.hid hl
        clear hl hd0 hd1 hd2
        go_wp2_with fail
        refine wp_loop_rounds 4 ?_
        have c7 : wc.cell? ⟨g2 + 1, 0, none⟩ = some (.pointer (some ⟨g0, 0, none⟩)) := by rw [HL.out.cell]; rfl
        have c8 : wc.cell? ⟨g0, 0, none⟩ = some (.slice E0 l0 k0) := by rw [HD0.out.1.cell]; rfl
        have h4 := rall_any l0 k0 g0 E0 S0 wc HD0.out.reads (Nat.le_of_lt HD0.out.1.lt) Hn.out.1
        unfold AllP at h4
        rw [HP0.out] at h4
        have H4 := Lib.hid h4
        clear h4
        rw [rounds_succ]
        go_wp2_with fail
        refine (H4.out).mono ?_
        intro e v0 hP
        obtain ⟨he, hb⟩ := hP
        obtain rfl : e = .returned (.tuple #[.agg #[.int .i64 0, .int .i64 0], .bool false, .int .i64 (q0 : Int)]) := he
        have c9 : v0.cell? ⟨g0, 1, none⟩ = some (.int .i64 (q0 : Int)) := by rw [(HD0.out.1.below hb HD0.out.1.lt).cell]; rfl
        have z9 : g0 < v0.heap.size := Nat.lt_of_lt_of_le HD0.out.1.lt hb.size
        have c10 : v0.cell? ⟨g2 + 1, 0, none⟩ = some (.pointer (some ⟨g0, 0, none⟩)) := by rw [(HL.out.below hb HL.out.lt).cell]; rfl
        have z10 : g2 + 1 < v0.heap.size := Nat.lt_of_lt_of_le HL.out.lt hb.size
        have ho := Only.of_below (S := fun _ => False) (hb.alloc hb.size (.cells #[.int .i64 0, .int .i64 0] 30))
        have kn0 : Below w.heap.size w (v0.alloc (.cells #[.int .i64 0, .int .i64 0] 30)) := kn.trans ((hb.alloc hb.size _).mono kn.size)
        have HL := Lib.hid (ho.blk HL.out (fun h => h))
        have HD0 := Lib.hid (HD0.out.keep ho (fun _ _ _ h => h))
        have HD1 := Lib.hid (HD1.out.keep ho (fun _ _ _ h => h))
        have HD2 := Lib.hid (HD2.out.keep ho (fun _ _ _ h => h))
        clear H4 ho hb c7 c8 kn
        go_wp2_with fail
        have c7 : (v0.alloc (.cells #[.int .i64 0, .int .i64 0] 30)).cell? ⟨g2 + 1, 1, none⟩ = some (.pointer (some ⟨g1, 0, none⟩)) := by rw [HL.out.cell]; rfl
        have c8 : (v0.alloc (.cells #[.int .i64 0, .int .i64 0] 30)).cell? ⟨g1, 0, none⟩ = some (.slice E1 l1 k1) := by rw [HD1.out.1.cell]; rfl
        have h4 := rall_any l1 k1 g1 E1 S1 (v0.alloc (.cells #[.int .i64 0, .int .i64 0] 30)) HD1.out.reads (Nat.le_of_lt HD1.out.1.lt) Hn.out.2.1
        unfold AllP at h4
        rw [HP1.out] at h4
        have H4 := Lib.hid h4
        clear h4
        rw [rounds_succ]
        go_wp2_with fail
        refine (H4.out).mono ?_
        intro e v1 hP
        obtain ⟨he, hb⟩ := hP
        obtain rfl : e = .returned (.tuple #[.agg #[.int .i64 0, .int .i64 0], .bool false, .int .i64 (q1 : Int)]) := he
        have c9 : v1.cell? ⟨g1, 1, none⟩ = some (.int .i64 (q1 : Int)) := by rw [(HD1.out.1.below hb HD1.out.1.lt).cell]; rfl
        have z9 : g1 < v1.heap.size := Nat.lt_of_lt_of_le HD1.out.1.lt hb.size
        have c10 : v1.cell? ⟨g2 + 1, 1, none⟩ = some (.pointer (some ⟨g1, 0, none⟩)) := by rw [(HL.out.below hb HL.out.lt).cell]; rfl
        have z10 : g2 + 1 < v1.heap.size := Nat.lt_of_lt_of_le HL.out.lt hb.size
        have ho := Only.of_below (S := fun _ => False) (hb.alloc hb.size (.cells #[.int .i64 0, .int .i64 0] 30))
        have kn1 : Below w.heap.size w (v1.alloc (.cells #[.int .i64 0, .int .i64 0] 30)) := kn0.trans ((hb.alloc hb.size _).mono kn0.size)
        have HL := Lib.hid (ho.blk HL.out (fun h => h))
        have HD0 := Lib.hid (HD0.out.keep ho (fun _ _ _ h => h))
        have HD1 := Lib.hid (HD1.out.keep ho (fun _ _ _ h => h))
        have HD2 := Lib.hid (HD2.out.keep ho (fun _ _ _ h => h))
        clear H4 ho hb c7 c8 kn0
        go_wp2_with fail
        have c7 : (v1.alloc (.cells #[.int .i64 0, .int .i64 0] 30)).cell? ⟨g2 + 1, 2, none⟩ = some (.pointer (some ⟨g2, 0, none⟩)) := by rw [HL.out.cell]; rfl
        have c8 : (v1.alloc (.cells #[.int .i64 0, .int .i64 0] 30)).cell? ⟨g2, 0, none⟩ = some (.slice E2 l2 k2) := by rw [HD2.out.1.cell]; rfl
        have h4 := rall_any l2 k2 g2 E2 S2 (v1.alloc (.cells #[.int .i64 0, .int .i64 0] 30)) HD2.out.reads (Nat.le_of_lt HD2.out.1.lt) Hn.out.2.2
        unfold AllP at h4
        rw [HP2.out] at h4
        have H4 := Lib.hid h4
        clear h4
        rw [rounds_succ]
        go_wp2_with fail
        refine (H4.out).mono ?_
        intro e v2 hP
        obtain ⟨he, hb⟩ := hP
        obtain rfl : e = .returned (.tuple #[.agg #[.int .i64 0, .int .i64 0], .bool false, .int .i64 (q2 : Int)]) := he
        have c9 : v2.cell? ⟨g2, 1, none⟩ = some (.int .i64 (q2 : Int)) := by rw [(HD2.out.1.below hb HD2.out.1.lt).cell]; rfl
        have z9 : g2 < v2.heap.size := Nat.lt_of_lt_of_le HD2.out.1.lt hb.size
        have c10 : v2.cell? ⟨g2 + 1, 2, none⟩ = some (.pointer (some ⟨g2, 0, none⟩)) := by rw [(HL.out.below hb HL.out.lt).cell]; rfl
        have z10 : g2 + 1 < v2.heap.size := Nat.lt_of_lt_of_le HL.out.lt hb.size
        have ho := Only.of_below (S := fun _ => False) (hb.alloc hb.size (.cells #[.int .i64 0, .int .i64 0] 30))
        have kn2 : Below w.heap.size w (v2.alloc (.cells #[.int .i64 0, .int .i64 0] 30)) := kn1.trans ((hb.alloc hb.size _).mono kn1.size)
        have HL := Lib.hid (ho.blk HL.out (fun h => h))
        have HD0 := Lib.hid (HD0.out.keep ho (fun _ _ _ h => h))
        have HD1 := Lib.hid (HD1.out.keep ho (fun _ _ _ h => h))
        have HD2 := Lib.hid (HD2.out.keep ho (fun _ _ _ h => h))
        clear H4 ho hb c7 c8 kn1
        go_wp2_with fail
        rw [rounds_succ]
        go_wp2_with fail
        go_ret
        exact ⟨rfl, kn2⟩
set_option maxRecDepth 100000 in
theorem lifted (os : Os) (started : os.Started) (H : Type) (enc : TypeId × Value → H) :
    ReturnsInHanded {} Try.checked os 6 .any (Rows.trapFirstSpec.pre6 enc Try.prog Try.f6 Rows.trapFirstRow.domain false) (Rows.trapFirstSpec.post enc Try.prog Try.f6 false true false false) := by
  refine returnsInHanded_of_change (C := Try.checked) own started (by kernel_rfl) Try.func6
    (ChangeSpec.witness6 (enc := enc) (C := Try.checked) false ⟨#[], #[.slice none 0 0, .slice none 0 0, .slice none 0 0], []⟩ 8 (by kernel_rfl) (by kernel_rfl) (by kernel_rfl) (by kernel_rfl)) ?_
  intro W base args ds gs before hval0 hW hcnd _
  have hval : ∀ (j : Nat) t v, Try.f6.params[j]? = some t → args[j]? = some v → Value.okWide Try.prog W .any base t v := hval0
  have hW' := hW
  obtain ⟨p, q, hA0, hV, rfl, hfz, hnd⟩ := hW
  have hA : DataW.TrodAll enc Try.prog W 0 (fun _ => true) true Try.f6.params.toList args.toList ds p := hA0
  rw [Try.params6] at hA hval
  obtain ⟨v0, vs0, d0, ds0, p0, q0, hargs, rfl, rfl, h0, rr0⟩ := trodAll_cons hA
  obtain ⟨v1, vs1, d1, ds1, p1, q1, rfl, rfl, rfl, h1, rr1⟩ := trodAll_cons rr0
  obtain ⟨v2, vs2, d2, ds2, p2, q2, rfl, rfl, rfl, h2, rr2⟩ := trodAll_cons rr1
  obtain ⟨rfl, rfl, rfl⟩ := trodAll_nil rr2
  obtain rfl : args = #[v0, v1, v2] := by cases args; simp_all
  obtain ⟨rfl, rfl⟩ := trodVars_none hV
  have k0 := h0
  have lt0 : ∀ x ∈ p0, x.block < W.heap.size := by obtain ⟨m, hm⟩ := k0; exact DataW.trod_lt m _ _ _ hm
  obtain ⟨A0, n0, c0, rfl⟩ := okWide_slice Try.underlying22 (hval 0 22 v0 rfl rfl)
  obtain ⟨z0, r0, o0, m0⟩ := rows_open (F := 5) Try.underlying22 Try.underlying94 (by kernel_rfl) (by kernel_rfl) rfl (by decide) (by intro j f hj; match j, hj with | 0, hj => cases hj; exact Try.underlying3 | 1, hj => cases hj; exact Try.underlying3 | 2, hj => cases hj; exact Try.underlying25 | 3, hj => cases hj; exact Try.underlying3 | 4, hj => cases hj; exact Try.underlying3 | j + 5, hj => simp at hj) h0
  have k1 := h1
  have lt1 : ∀ x ∈ p1, x.block < W.heap.size := by obtain ⟨m, hm⟩ := k1; exact DataW.trod_lt m _ _ _ hm
  obtain ⟨A1, n1, c1, rfl⟩ := okWide_slice Try.underlying22 (hval 1 22 v1 rfl rfl)
  obtain ⟨z1, r1, o1, m1⟩ := rows_open (F := 5) Try.underlying22 Try.underlying94 (by kernel_rfl) (by kernel_rfl) rfl (by decide) (by intro j f hj; match j, hj with | 0, hj => cases hj; exact Try.underlying3 | 1, hj => cases hj; exact Try.underlying3 | 2, hj => cases hj; exact Try.underlying25 | 3, hj => cases hj; exact Try.underlying3 | 4, hj => cases hj; exact Try.underlying3 | j + 5, hj => simp at hj) h1
  have k2 := h2
  have lt2 : ∀ x ∈ p2, x.block < W.heap.size := by obtain ⟨m, hm⟩ := k2; exact DataW.trod_lt m _ _ _ hm
  obtain ⟨A2, n2, c2, rfl⟩ := okWide_slice Try.underlying22 (hval 2 22 v2 rfl rfl)
  obtain ⟨z2, r2, o2, m2⟩ := rows_open (F := 5) Try.underlying22 Try.underlying94 (by kernel_rfl) (by kernel_rfl) rfl (by decide) (by intro j f hj; match j, hj with | 0, hj => cases hj; exact Try.underlying3 | 1, hj => cases hj; exact Try.underlying3 | 2, hj => cases hj; exact Try.underlying25 | 3, hj => cases hj; exact Try.underlying3 | 4, hj => cases hj; exact Try.underlying3 | j + 5, hj => simp at hj) h2
  clear hA0 hval0
  refine (walk A0 n0 c0 z0 A1 n1 c1 z1 A2 n2 c2 z2 W r0 o0 m0 r1 o1 m1 r2 o2 m2).mono fun e W' ⟨he, bel⟩ => ?_
  subst he
  exact ⟨_, rfl, _, _, _, [], _, [], hW', trodAll_mk1 (shut_bool Try.underlying4 _), (trodAll_cons_mk (Below.trod laidOut (by kernel_rfl) (of_decide_eq_true (by kernel_rfl)) k0 bel lt0) (trodAll_cons_mk (Below.trod laidOut (by kernel_rfl) (of_decide_eq_true (by kernel_rfl)) k1 bel lt1) (trodAll_cons_mk (Below.trod laidOut (by kernel_rfl) (of_decide_eq_true (by kernel_rfl)) k2 bel lt2) trodAll_mk0))), rfl, bel.frame _, fun h => by cases h⟩

theorem over : Rows.trapFirstRow.holds Try.pinned (OpenSpec.ofChange Rows.trapFirstSpec) :=
  OpenClaim.holds_of_wide 6 Try.f6 rfl rfl rfl rfl rfl rfl rfl ⟨rfl, rfl, rfl, rfl, rfl⟩ rfl rfl rfl rfl rfl (by kernel_rfl) Try.func6 (by kernel_rfl)
    (of_decide_eq_true (by kernel_rfl)) (by unfold Func.isWrapper; first | (rw [if_pos (by decide +kernel)]; kernel_rfl) | (rw [if_neg (by decide +kernel)]; exact ⟨rfl, rfl⟩))
    (fun os started H enc _ => lifted os started H enc)

theorem proved : Rows.TrapFirstSaid := over
#print axioms proved
end Go.Proofs.Ytmmmhkpekaimeaa.trapFirst
