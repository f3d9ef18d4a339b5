/- What a queue tells of any calls is as the document says. No condition. -/
import Derived.Test.YtmomafhpbbmiaaaRows
import Derived.WalkKit
import Derived.ProofKit
import Derived.OpenShut
import Derived.ChangeOld
import Derived.Below
import Derived.Outline
import Derived.Lib.SmallJoins
import Derived.Test.YtmomafhpbbmiaaaR11
set_option linter.unusedVariables false
namespace Go.Proofs.Ytmomafhpbbmiaaa.ringPlays
open Go.ChangeShapes Go.WideShapes Go.ChangeAt Go.RowKit Go.Joins

theorem own : ownKnob Try.prog.godebug = none := by kernel_rfl
theorem laidOut : laidOutB Try.prog = true := by kernel_rfl

set_option maxRecDepth 100000 in
set_option maxHeartbeats 16000000 in
theorem walk (a0 : Int) (A1 : Option Addr) (n1 c1 : Nat) (z1 : List Int) (a2 : Int) (w : World) (w0 : (Lit.int .i64 a0).wf = true) (r1 : Reads w w.heap.size 2 A1 n1 (iv z1)) (o1 : okAll z1) (m1 : n1 ≤ c1 ∧ c1 ≤ maxLen) (w2 : (Lit.int .i64 a2).wf = true) :
    Calls Try.prog 3 #[.int .i64 a0, .slice A1 n1 c1, .int .i64 a2] w fun e w' => e = .returned (.bool true) ∧ Below w.heap.size w w' := by
  by_cases hbad : a0 < 1 ∨ 65536 < a0
  · have NW := ring_new_no a0 hbad w
    have HN := Lib.hid NW
    clear NW
    rcases hbad with hb | hb
    · go_enter Try.func3, Try.ntmps3
      go_wp2_with fail
      refine (HN.out).mono ?_
      rintro e w1 ⟨rfl, rfl⟩
      go_wp2_with fail
      refine (lives11 _).mono ?_
      rintro e w2 ⟨rfl, hb2⟩
      go_wp2_with fail
      go_ret
      exact ⟨rfl, hb2⟩
    · have hb' : ¬ a0 < 1 := by omega
      go_enter Try.func3, Try.ntmps3
      go_wp2_with fail
      refine (HN.out).mono ?_
      rintro e w1 ⟨rfl, rfl⟩
      go_wp2_with fail
      refine (lives11 _).mono ?_
      rintro e w2 ⟨rfl, hb2⟩
      go_wp2_with fail
      go_ret
      exact ⟨rfl, hb2⟩
  · have y1 : 1 ≤ a0 := by omega
    have y2 : a0 ≤ 65536 := by omega
    clear hbad
    have HR := Lib.hid r1
    clear r1 o1
    go_enter Try.func3, Try.ntmps3
    go_wp2_with fail
    refine (ring_new a0 ⟨y1, y2⟩ _).mono ?_
    rintro e w1 ⟨rfl, hw1⟩
    have G1 : Rg w1 w.heap.size w.heap.size a0 (.slice none 0 0) [] := by rw [hw1]; exact rg_new a0 ⟨y1, y2⟩ w
    have k1 : Below w.heap.size w w1 := by rw [hw1]; exact (Below.refl _ _).alloc (Nat.le_refl _) _
    have HG1 := Lib.hid G1
    have HB1 := Lib.hid k1
    clear hw1 G1 k1
    go_wp2_with fail
    have RL0 : Hid (RL w (w1.alloc (.cells #[] 3)) a0 (.slice (some ⟨w1.heap.size, 0, none⟩) 0 0)) := Lib.hid ⟨[], _, _, _, _, rfl, HG1.out.keep (only_new (S := fun _ => False) _ _) (fun h => h) (fun _ _ h => h), Ls.nil HG1.out, HB1.out.alloc HB1.out.size _⟩
    go_loopg [9, 10] 60 (fun q v i wr => ∃ r : Nat, q = 60 - r ∧ r ≤ 60 ∧ r ≤ n1 ∧ i = .int .i64 r ∧ Hid (RL w wr a0 v))
    case atStart => exact ⟨0, rfl, by omega, by omega, rfl, RL0⟩
    case round =>
      obtain ⟨r, rfl, hr, hrn, rfl, hRL⟩ := hrel
      obtain ⟨L, x, A, n, c, rfl, hg, hl, kb⟩ := hRL.out
      have HG := Lib.hid hg
      have HL := Lib.hid hl
      have HB := Lib.hid kb
      clear hRL hg hl kb HG1 HB1 RL0
      by_cases hlt : r < n1
      · by_cases h60 : r < 60
        · obtain ⟨b, off, rfl, hbB, p0, p1⟩ := reads2 (HR.out.below HB.out) hlt
          generalize z1.getD (r * 2) 0 = s0 at *
          generalize z1.getD (r * 2 + 1) 0 = s1 at *
          go_upto_block 2 with fail
          go_cut [9] (fun v wx => Hid (RL w wx a0 v))
          case first =>
            by_cases k1 : s0 = 1
            · subst k1
              rcases L with _ | ⟨a, L⟩
              · have hn0 : n = 0 := HL.out.1
                subst hn0
                go_wp2_with fail
                refine (ring_pop_empty _ _ _ _ wr HG.out).mono ?_
                rintro e w1 ⟨rfl, rfl⟩
                go_wp2_with fail
                go_meet
                exact Lib.hid ⟨_, _, _, _, _, rfl, HG.out, HL.out, HB.out⟩
              · obtain ⟨b', off', rfl, hbB', d0⟩ := reads_cell (k := 0) HL.out.2.2.2.1 (by have := HL.out.1; simp at this; omega)
                rw [Nat.add_zero, List.getD_cons_zero] at d0
                obtain ⟨m, rfl⟩ : ∃ m, n = m + 1 := ⟨L.length, by have := HL.out.1; simpa using this⟩
                go_wp2_with fail
                refine (ring_pop _ _ _ _ a L wr HG.out).mono ?_
                rintro e w1 ⟨rfl, G1, O1⟩
                have d1 : w1.cell? ⟨b', off', none⟩ = some (.int .i64 a) := (World.cell?_of_block (O1.block b' hbB' (fun h => by
                  have := HL.out.2.2.2.2 _ rfl
                  rcases h with h | h
                  · exact this.2.1 h
                  · exact this.2.2 h))).trans d0
                have HG1 := Lib.hid G1
                have HL1 := Lib.hid (HL.out.step O1 (fun i h => h) (.inl rfl))
                have HB1 := Lib.hid (HB.out.trans (rg_below HG.out O1))
                have hd1 : decide (0 < ((m + 1 : Nat) : Int)) = true := decide_eq_true (by omega)
                have hd2 : decide (0 < (m : Int) + 1) = true := decide_eq_true (by omega)
                have j1 : (1 : Int) ≤ ((m + 1 : Nat) : Int) := by omega
                have j2 : (1 : Int) ≤ (m : Int) + 1 := by omega
                clear d0 G1 O1
                by_cases hc : c = 1
                · subst hc
                  have HT := HL1.out.tail
                  rw [if_pos rfl] at HT
                  have HT1 := Lib.hid HT
                  have hm0 : m = 0 := by have := HL1.out.2.1; omega
                  subst hm0
                  clear HT
                  go_wp2_with fail
                  go_meet
                  exact Lib.hid ⟨_, _, _, _, _, rfl, HG1.out, HT1.out, HB1.out⟩
                · have HT := HL1.out.tail
                  rw [if_neg hc] at HT
                  have HT1 := Lib.hid HT
                  clear HT
                  go_wp2_with fail
                  go_meet
                  exact Lib.hid ⟨_, _, _, _, _, rfl, HG1.out, HT1.out, HB1.out⟩
            · have k1' : (s0 == 1) = false := by simpa using k1
              by_cases k2 : s0 = 2
              · subst k2
                have hb := idx_bd L s1
                by_cases hi : idx L s1 < 0
                · have D1 := ring_drop_no _ _ _ _ L s1 wr HG.out hi
                  have D2 := fun V (O : Only (fun _ => False) wr V) => at_any A n c _ L s1 V (HL.out.still O).2.2.2.1 (Nat.le_trans HL.out.2.1 HL.out.2.2.1)
                  have D3 := fun V (O : Only (fun _ => False) wr V) => rdrop_no A n c _ L s1 V (HL.out.still O).2.2.2.1 (Nat.le_trans HL.out.2.1 HL.out.2.2.1) hi
                  have HD1 := Lib.hid D1
                  have HD2 := Lib.hid D2
                  have HD3 := Lib.hid D3
                  generalize idx L s1 = ix at *
                  clear D1 D2 D3
                  go_wp2_with fail
                  refine (HD1.out).mono ?_
                  rintro e w1 ⟨rfl, hb1⟩
                  have O1 : Only (fun _ => False) wr w1 := Only.of_below hb1
                  have HG1 := Lib.hid (HG.out.keep O1 (fun h => h) (fun _ _ h => h))
                  have HL1 := Lib.hid (HL.out.still O1)
                  have HB1 := Lib.hid (HB.out.trans (hb1.mono HB.out.size))
                  have HO1 := Lib.hid O1
                  clear hb1 O1
                  go_wp2_with fail
                  refine (HD2.out _ HO1.out).mono ?_
                  rintro e w' ⟨rfl, rfl⟩
                  go_wp2_with fail
                  refine (HD3.out _ HO1.out).mono ?_
                  rintro e w' ⟨rfl, rfl⟩
                  go_wp2_with fail
                  go_meet
                  exact Lib.hid ⟨_, _, _, _, _, rfl, HG1.out, HL1.out, HB1.out⟩
                · have D1 := ring_drop _ _ _ _ L s1 wr HG.out (by omega)
                  have D2 := fun V S' (O : Only S' wr V) (h : ∀ i, S' i → i = w.heap.size ∨ x.ownBlock = some i) => at_any A n c _ L s1 V (HL.out.step O h (.inl rfl)).2.2.2.1 (Nat.le_trans HL.out.2.1 HL.out.2.2.1)
                  have hLl : n ≤ 100000 := by have h1 := HG.out.len; have h2 := HG.out.2.2.1; have h3 := HL.out.1; omega
                  have D3 := fun V S' (O : Only S' wr V) (h : ∀ i, S' i → i = w.heap.size ∨ x.ownBlock = some i) => rdrop_yes A n c _ (idx L s1).toNat L s1 V (HL.out.step O h (.inl rfl)).2.2.2.1 (Nat.le_refl _) hLl HL.out.2.1 HL.out.2.2.1 (by omega)
                  have HD1 := Lib.hid D1
                  have HD2 := Lib.hid D2
                  have HD3 := Lib.hid D3
                  have hi' : 0 ≤ idx L s1 := by omega
                  clear hi
                  generalize idx L s1 = ix at *
                  clear D1 D2 D3
                  go_wp2_with fail
                  refine (HD1.out).mono ?_
                  rintro e w1 ⟨rfl, G1, O1⟩
                  have HG1 := Lib.hid G1
                  have HB1 := Lib.hid (HB.out.trans (rg_below HG.out O1))
                  have HO1 := Lib.hid O1
                  clear G1 O1
                  go_wp2_with fail
                  refine (HD2.out _ _ HO1.out (fun i h => h)).mono ?_
                  rintro e w' ⟨rfl, rfl⟩
                  go_wp2_with fail
                  refine (HD3.out _ _ HO1.out (fun i h => h)).mono ?_
                  rintro e w2 ⟨u, rfl, fr, O2⟩
                  obtain ⟨A2, n2, c2, rfl, L2⟩ := Ls.fresh fr O2 HG1.out
                  have HG2 := Lib.hid (HG1.out.keep O2 (fun h => h) (fun _ _ h => h))
                  have HL2 := Lib.hid L2
                  have HB2 := Lib.hid (HB1.out.trans (O2.below HB1.out.size (fun _ _ h => h)))
                  clear fr O2 L2
                  go_wp2_with fail
                  go_meet
                  exact Lib.hid ⟨_, _, _, _, _, rfl, HG2.out, HL2.out, HB2.out⟩
              · have k2' : (s0 == 2) = false := by simpa using k2
                have hb := idx_bd L s1
                have hlen := HG.out.len
                have hnL : n = L.length := HL.out.1
                by_cases hi : idx L s1 < 0
                · by_cases hm : (n : Int) < a0
                  · have D1 := rpush_ok A n c _ L a0 s1 wr HL.out.2.2.2.1 (Nat.le_refl _) (by have h2 := HG.out.2.2.1; omega) hi hm
                    have D2 := fun V (O : Only (fun _ => False) wr V) => ring_push _ _ _ x L s1 V (HG.out.keep O (fun h => h) (fun _ _ h => h)) hi (by rw [← HL.out.1]; exact hm) (Nat.le_trans HB.out.size O.size)
                    have HD1 := Lib.hid D1
                    have HD2 := Lib.hid D2
                    clear D1 D2 hi hb hlen hnL hm
                    go_wp2_with fail
                    refine (HD1.out).mono ?_
                    rintro e w1 ⟨u, rfl, fr, O1⟩
                    obtain ⟨A1, n1_, c1_, rfl, L1⟩ := Ls.fresh fr O1 HG.out
                    have HB1 := Lib.hid (HB.out.trans (O1.below HB.out.size (fun _ _ h => h)))
                    have HL1 := Lib.hid L1
                    have HO1 := Lib.hid O1
                    have HG1 := Lib.hid (HG.out.keep O1 (fun h => h) (fun _ _ h => h))
                    clear fr O1 L1
                    go_wp2_with fail
                    refine (HD2.out _ HO1.out).mono ?_
                    rintro e w2 ⟨rfl, x2, G2, O2, hx2⟩
                    have HG2 := Lib.hid G2
                    have HL2 := Lib.hid (HL1.out.step O2 (fun i h => h) hx2)
                    have HB2 := Lib.hid (HB1.out.trans (rg_below HG1.out O2))
                    clear G2 O2 hx2
                    go_wp2_with fail
                    go_meet
                    exact Lib.hid ⟨_, _, _, _, _, rfl, HG2.out, HL2.out, HB2.out⟩
                  · have D1 := rpush_full A n c _ L a0 s1 wr HL.out.2.2.2.1 (Nat.le_trans HL.out.2.1 HL.out.2.2.1) hi (by omega)
                    have D2 := ring_push_full _ _ _ x L s1 wr HG.out hi (by omega)
                    have HD1 := Lib.hid D1
                    have HD2 := Lib.hid D2
                    clear D1 D2 hi hb hlen hnL
                    go_wp2_with fail
                    refine (HD1.out).mono ?_
                    rintro e w' ⟨rfl, rfl⟩
                    go_wp2_with fail
                    refine (HD2.out).mono ?_
                    rintro e w1 ⟨rfl, hb1⟩
                    have O1 : Only (fun _ => False) wr w1 := Only.of_below hb1
                    have HG1 := Lib.hid (HG.out.keep O1 (fun h => h) (fun _ _ h => h))
                    have HL1 := Lib.hid (HL.out.still O1)
                    have HB1 := Lib.hid (HB.out.trans (hb1.mono HB.out.size))
                    clear hb1 O1
                    go_wp2_with fail
                    go_meet
                    exact Lib.hid ⟨_, _, _, _, _, rfl, HG1.out, HL1.out, HB1.out⟩
                · have D1 := rpush_dup A n c _ L a0 s1 wr HL.out.2.2.2.1 (Nat.le_trans HL.out.2.1 HL.out.2.2.1) (by omega)
                  have D2 := ring_push_dup _ _ _ x L s1 wr HG.out (by omega)
                  have HD1 := Lib.hid D1
                  have HD2 := Lib.hid D2
                  clear D1 D2 hi hb hlen hnL
                  go_wp2_with fail
                  refine (HD1.out).mono ?_
                  rintro e w' ⟨rfl, rfl⟩
                  go_wp2_with fail
                  refine (HD2.out).mono ?_
                  rintro e w1 ⟨rfl, hb1⟩
                  have O1 : Only (fun _ => False) wr w1 := Only.of_below hb1
                  have HG1 := Lib.hid (HG.out.keep O1 (fun h => h) (fun _ _ h => h))
                  have HL1 := Lib.hid (HL.out.still O1)
                  have HB1 := Lib.hid (HB.out.trans (hb1.mono HB.out.size))
                  clear hb1 O1
                  go_wp2_with fail
                  go_meet
                  exact Lib.hid ⟨_, _, _, _, _, rfl, HG1.out, HL1.out, HB1.out⟩
          obtain ⟨L, x, A, n, c, rfl, hg, hl, kb⟩ := hcut.out
          clear hcut HG HL HB p0 p1
          have HG := Lib.hid hg
          have HL := Lib.hid hl
          have HB := Lib.hid kb
          clear hg hl kb
          rcases L with _ | ⟨a, L⟩
          · by_cases hi : idx [] a2 < 0
            · go_wp2_with fail
              refine (ring_head_empty _ _ _ _ wc HG.out).mono ?_
              rintro e W1 ⟨rfl, hW1⟩
              have HG1 : Hid (Rg W1 w.heap.size w.heap.size a0 x []) := Lib.hid (by rw [← hW1]; exact HG.out)
              have HL1 : Hid (Ls W1 A n c [] w.heap.size x) := Lib.hid (by rw [← hW1]; exact HL.out)
              have HB1 : Hid (Below w.heap.size w W1) := Lib.hid (by rw [← hW1]; exact HB.out)
              have hn0 : n = 0 := HL.out.1
              subst hn0
              clear hW1
              have PL := ring_place _ _ _ _ [] a2 W1 HG1.out
              have AT := fun V (O : Only (fun _ => False) W1 V) => at_any A 0 c _ [] a2 V (HL1.out.still O).2.2.2.1 (Nat.le_trans HL1.out.2.1 HL1.out.2.2.1)
              rw [if_pos hi, decide_eq_false (by omega : ¬ 0 ≤ idx [] a2)] at PL
              have hi' : idx [] a2 < 0 := by omega
              clear hi
              generalize idx [] a2 = ix at *
              have HPL := Lib.hid PL
              have HAT := Lib.hid AT
              clear PL AT
              go_wp2_with fail
              refine (HPL.out).mono ?_
              rintro e w2 ⟨rfl, hb2⟩
              have O2 : Only (fun _ => False) W1 w2 := Only.of_below hb2
              have HG2 := Lib.hid (HG1.out.keep O2 (fun h => h) (fun _ _ h => h))
              have HL2 := Lib.hid (HL1.out.still O2)
              have HB2 := Lib.hid (HB1.out.trans (hb2.mono HB1.out.size))
              have HO2 := Lib.hid O2
              clear hb2 O2
              go_wp2_with fail
              refine (HAT.out _ HO2.out).mono ?_
              rintro e w' ⟨rfl, rfl⟩
              go_wp2_with fail
              refine (ring_all _ _ _ _ [] w2 HG2.out).mono ?_
              rintro e w3 ⟨va, rfl, fr, O3⟩
              obtain ⟨Aa, na, ca, rfl, L4⟩ := Ls.fresh fr O3 HG2.out
              have SM := same_any Aa A na 0 ca c _ _ [] [] w3 L4.2.2.2.1 (HL2.out.still O3).2.2.2.1 (Nat.le_trans L4.2.1 L4.2.2.1) (Nat.le_trans HL2.out.2.1 HL2.out.2.2.1)
              rw [decide_eq_true rfl] at SM
              have HSM := Lib.hid SM
              have HG3 := Lib.hid (HG2.out.keep O3 (fun h => h) (fun _ _ h => h))
              have HL3 := Lib.hid (HL2.out.still O3)
              have HB3 := Lib.hid (HB2.out.trans (O3.below HB2.out.size (fun _ _ h => h)))
              clear SM L4 fr O3
              go_wp2_with fail
              refine (HSM.out).mono ?_
              rintro e w4 ⟨rfl, q4, rfl⟩
              have O4 : Only (fun _ => False) w3 (w3.drewN q4) := (Only.refl _ _).drewN _
              obtain ⟨W4, hW4⟩ : ∃ W4, W4 = w3.drewN q4 := ⟨_, rfl⟩
              rw [← hW4] at O4 ⊢
              have HG4 := Lib.hid (HG3.out.keep O4 (fun h => h) (fun _ _ h => h))
              have HL4 := Lib.hid (HL3.out.still O4)
              have HB4 := Lib.hid (HB3.out.trans (O4.below HB3.out.size (fun _ _ h => h)))
              have LN := ring_len _ _ _ _ [] W4 HG4.out
              rw [← HL4.out.1] at LN
              have HLN := Lib.hid LN
              clear O4 hW4 LN
              go_wp2_with fail
              refine (HLN.out).mono ?_
              rintro e w' ⟨rfl, rfl⟩
              go_wp2_with fail
              go_roundg (60 - (r + 1))
              case measure => omega
              case rel => exact ⟨r + 1, rfl, by omega, by omega, by go_num, Lib.hid ⟨_, _, _, _, _, rfl, HG4.out, HL4.out, HB4.out⟩⟩
            · exfalso; simp [idx] at hi
          · by_cases hi : idx (a :: L) a2 < 0
            · obtain ⟨b, off, rfl, hbB, d0⟩ := reads_cell (k := 0) HL.out.2.2.2.1 (by have := HL.out.1; simp at this; omega)
              rw [Nat.add_zero, List.getD_cons_zero] at d0
              have hn0 : 0 < n := by have := HL.out.1; simp at this; omega
              go_wp2_with fail
              refine (ring_head _ _ _ _ a L wc HG.out).mono ?_
              rintro e w1 ⟨rfl, q1, rfl⟩
              have O1 : Only (fun _ => False) wc (wc.drewN q1) := (Only.refl _ _).drewN _
              obtain ⟨W1, hW1⟩ : ∃ W1, W1 = wc.drewN q1 := ⟨_, rfl⟩
              rw [← hW1] at O1 ⊢
              have HG1 := Lib.hid (HG.out.keep O1 (fun h => h) (fun _ _ h => h))
              have HL1 := Lib.hid (HL.out.still O1)
              have HB1 := Lib.hid (HB.out.trans (O1.below (Nat.le_trans (Nat.le_refl _) HB.out.size) (fun _ _ h => h)))
              have d1 : W1.cell? ⟨b, off, none⟩ = some (.int .i64 a) := (World.cell?_of_block (O1.block b hbB (fun h => h))).trans d0
              clear d0 O1 hW1
              have PL := ring_place _ _ _ _ (a :: L) a2 W1 HG1.out
              have AT := fun V (O : Only (fun _ => False) W1 V) => at_any (some ⟨b, off, none⟩) n c _ (a :: L) a2 V (HL1.out.still O).2.2.2.1 (Nat.le_trans HL1.out.2.1 HL1.out.2.2.1)
              rw [if_pos hi, decide_eq_false (by omega : ¬ 0 ≤ idx (a :: L) a2)] at PL
              have hi' : idx (a :: L) a2 < 0 := by omega
              clear hi
              generalize idx (a :: L) a2 = ix at *
              have HPL := Lib.hid PL
              have HAT := Lib.hid AT
              clear PL AT
              go_wp2_with fail
              refine (HPL.out).mono ?_
              rintro e w2 ⟨rfl, hb2⟩
              have O2 : Only (fun _ => False) W1 w2 := Only.of_below hb2
              have HG2 := Lib.hid (HG1.out.keep O2 (fun h => h) (fun _ _ h => h))
              have HL2 := Lib.hid (HL1.out.still O2)
              have HB2 := Lib.hid (HB1.out.trans (hb2.mono HB1.out.size))
              have HO2 := Lib.hid O2
              have d2 : w2.cell? ⟨b, off, none⟩ = some (.int .i64 a) := (World.cell?_of_block (O2.block b (HL1.out.2.2.2.2 _ rfl).1 (fun h => h))).trans d1
              clear d1
              clear hb2 O2
              go_wp2_with fail
              refine (HAT.out _ HO2.out).mono ?_
              rintro e w' ⟨rfl, rfl⟩
              go_wp2_with fail
              refine (ring_all _ _ _ _ (a :: L) w2 HG2.out).mono ?_
              rintro e w3 ⟨va, rfl, fr, O3⟩
              obtain ⟨Aa, na, ca, rfl, L4⟩ := Ls.fresh fr O3 HG2.out
              have SM := same_any Aa (some ⟨b, off, none⟩) na n ca c _ _ (a :: L) (a :: L) w3 L4.2.2.2.1 (HL2.out.still O3).2.2.2.1 (Nat.le_trans L4.2.1 L4.2.2.1) (Nat.le_trans HL2.out.2.1 HL2.out.2.2.1)
              rw [decide_eq_true rfl] at SM
              have HSM := Lib.hid SM
              have HG3 := Lib.hid (HG2.out.keep O3 (fun h => h) (fun _ _ h => h))
              have HL3 := Lib.hid (HL2.out.still O3)
              have HB3 := Lib.hid (HB2.out.trans (O3.below HB2.out.size (fun _ _ h => h)))
              have d3 : w3.cell? ⟨b, off, none⟩ = some (.int .i64 a) := (World.cell?_of_block (O3.block b (HL2.out.2.2.2.2 _ rfl).1 (fun h => h))).trans d2
              clear d2
              clear SM L4 fr O3
              go_wp2_with fail
              refine (HSM.out).mono ?_
              rintro e w4 ⟨rfl, q4, rfl⟩
              have O4 : Only (fun _ => False) w3 (w3.drewN q4) := (Only.refl _ _).drewN _
              obtain ⟨W4, hW4⟩ : ∃ W4, W4 = w3.drewN q4 := ⟨_, rfl⟩
              rw [← hW4] at O4 ⊢
              have HG4 := Lib.hid (HG3.out.keep O4 (fun h => h) (fun _ _ h => h))
              have HL4 := Lib.hid (HL3.out.still O4)
              have HB4 := Lib.hid (HB3.out.trans (O4.below HB3.out.size (fun _ _ h => h)))
              have LN := ring_len _ _ _ _ (a :: L) W4 HG4.out
              rw [← HL4.out.1] at LN
              have HLN := Lib.hid LN
              have d4 : W4.cell? ⟨b, off, none⟩ = some (.int .i64 a) := (World.cell?_of_block (O4.block b (HL3.out.2.2.2.2 _ rfl).1 (fun h => h))).trans d3
              clear d3
              have hd1 : decide (0 < (n : Int)) = true := decide_eq_true (by omega)
              clear O4 hW4 LN
              go_wp2_with fail
              refine (HLN.out).mono ?_
              rintro e w' ⟨rfl, rfl⟩
              go_wp2_with fail
              go_roundg (60 - (r + 1))
              case measure => omega
              case rel => exact ⟨r + 1, rfl, by omega, by omega, by go_num, Lib.hid ⟨_, _, _, _, _, rfl, HG4.out, HL4.out, HB4.out⟩⟩
            · obtain ⟨b, off, rfl, hbB, d0⟩ := reads_cell (k := 0) HL.out.2.2.2.1 (by have := HL.out.1; simp at this; omega)
              rw [Nat.add_zero, List.getD_cons_zero] at d0
              have hn0 : 0 < n := by have := HL.out.1; simp at this; omega
              go_wp2_with fail
              refine (ring_head _ _ _ _ a L wc HG.out).mono ?_
              rintro e w1 ⟨rfl, q1, rfl⟩
              have O1 : Only (fun _ => False) wc (wc.drewN q1) := (Only.refl _ _).drewN _
              obtain ⟨W1, hW1⟩ : ∃ W1, W1 = wc.drewN q1 := ⟨_, rfl⟩
              rw [← hW1] at O1 ⊢
              have HG1 := Lib.hid (HG.out.keep O1 (fun h => h) (fun _ _ h => h))
              have HL1 := Lib.hid (HL.out.still O1)
              have HB1 := Lib.hid (HB.out.trans (O1.below (Nat.le_trans (Nat.le_refl _) HB.out.size) (fun _ _ h => h)))
              have d1 : W1.cell? ⟨b, off, none⟩ = some (.int .i64 a) := (World.cell?_of_block (O1.block b hbB (fun h => h))).trans d0
              clear d0 O1 hW1
              have PL := ring_place _ _ _ _ (a :: L) a2 W1 HG1.out
              have AT := fun V (O : Only (fun _ => False) W1 V) => at_any (some ⟨b, off, none⟩) n c _ (a :: L) a2 V (HL1.out.still O).2.2.2.1 (Nat.le_trans HL1.out.2.1 HL1.out.2.2.1)
              rw [if_neg (by omega : ¬ idx (a :: L) a2 < 0), decide_eq_true (by omega : 0 ≤ idx (a :: L) a2)] at PL
              have hi' : 0 ≤ idx (a :: L) a2 := by omega
              clear hi
              generalize idx (a :: L) a2 = ix at *
              have HPL := Lib.hid PL
              have HAT := Lib.hid AT
              clear PL AT
              go_wp2_with fail
              refine (HPL.out).mono ?_
              rintro e w2 ⟨rfl, hb2⟩
              have O2 : Only (fun _ => False) W1 w2 := Only.of_below hb2
              have HG2 := Lib.hid (HG1.out.keep O2 (fun h => h) (fun _ _ h => h))
              have HL2 := Lib.hid (HL1.out.still O2)
              have HB2 := Lib.hid (HB1.out.trans (hb2.mono HB1.out.size))
              have HO2 := Lib.hid O2
              have d2 : w2.cell? ⟨b, off, none⟩ = some (.int .i64 a) := (World.cell?_of_block (O2.block b (HL1.out.2.2.2.2 _ rfl).1 (fun h => h))).trans d1
              clear d1
              clear hb2 O2
              go_wp2_with fail
              refine (HAT.out _ HO2.out).mono ?_
              rintro e w' ⟨rfl, rfl⟩
              go_wp2_with fail
              refine (ring_all _ _ _ _ (a :: L) w2 HG2.out).mono ?_
              rintro e w3 ⟨va, rfl, fr, O3⟩
              obtain ⟨Aa, na, ca, rfl, L4⟩ := Ls.fresh fr O3 HG2.out
              have SM := same_any Aa (some ⟨b, off, none⟩) na n ca c _ _ (a :: L) (a :: L) w3 L4.2.2.2.1 (HL2.out.still O3).2.2.2.1 (Nat.le_trans L4.2.1 L4.2.2.1) (Nat.le_trans HL2.out.2.1 HL2.out.2.2.1)
              rw [decide_eq_true rfl] at SM
              have HSM := Lib.hid SM
              have HG3 := Lib.hid (HG2.out.keep O3 (fun h => h) (fun _ _ h => h))
              have HL3 := Lib.hid (HL2.out.still O3)
              have HB3 := Lib.hid (HB2.out.trans (O3.below HB2.out.size (fun _ _ h => h)))
              have d3 : w3.cell? ⟨b, off, none⟩ = some (.int .i64 a) := (World.cell?_of_block (O3.block b (HL2.out.2.2.2.2 _ rfl).1 (fun h => h))).trans d2
              clear d2
              clear SM L4 fr O3
              go_wp2_with fail
              refine (HSM.out).mono ?_
              rintro e w4 ⟨rfl, q4, rfl⟩
              have O4 : Only (fun _ => False) w3 (w3.drewN q4) := (Only.refl _ _).drewN _
              obtain ⟨W4, hW4⟩ : ∃ W4, W4 = w3.drewN q4 := ⟨_, rfl⟩
              rw [← hW4] at O4 ⊢
              have HG4 := Lib.hid (HG3.out.keep O4 (fun h => h) (fun _ _ h => h))
              have HL4 := Lib.hid (HL3.out.still O4)
              have HB4 := Lib.hid (HB3.out.trans (O4.below HB3.out.size (fun _ _ h => h)))
              have LN := ring_len _ _ _ _ (a :: L) W4 HG4.out
              rw [← HL4.out.1] at LN
              have HLN := Lib.hid LN
              have d4 : W4.cell? ⟨b, off, none⟩ = some (.int .i64 a) := (World.cell?_of_block (O4.block b (HL3.out.2.2.2.2 _ rfl).1 (fun h => h))).trans d3
              clear d3
              have hd1 : decide (0 < (n : Int)) = true := decide_eq_true (by omega)
              clear O4 hW4 LN
              go_wp2_with fail
              refine (HLN.out).mono ?_
              rintro e w' ⟨rfl, rfl⟩
              go_wp2_with fail
              go_roundg (60 - (r + 1))
              case measure => omega
              case rel => exact ⟨r + 1, rfl, by omega, by omega, by go_num, Lib.hid ⟨_, _, _, _, _, rfl, HG4.out, HL4.out, HB4.out⟩⟩
        · obtain rfl : r = 60 := by omega
          go_wp2_with fail
          refine (lives11 _).mono ?_
          rintro e w9 ⟨rfl, hb9⟩
          go_wp2_with fail
          go_ret
          exact ⟨rfl, HB.out.trans (hb9.mono HB.out.size)⟩

      · obtain rfl : r = n1 := by omega
        go_wp2_with fail
        refine (lives11 _).mono ?_
        rintro e w9 ⟨rfl, hb9⟩
        go_wp2_with fail
        go_ret
        exact ⟨rfl, HB.out.trans (hb9.mono HB.out.size)⟩

set_option maxRecDepth 100000 in
theorem lifted (os : Os) (started : os.Started) (H : Type) (enc : TypeId × Value → H) :
    ReturnsInHanded {} Try.checked os 3 .any (Rows.ringPlaysSpec.pre6 enc Try.prog Try.f3 Rows.ringPlaysRow.domain false) (Rows.ringPlaysSpec.post enc Try.prog Try.f3 false true false false) := by
  refine returnsInHanded_of_change (C := Try.checked) own started (by kernel_rfl) Try.func3
    (ChangeSpec.witness6 (enc := enc) (C := Try.checked) false ⟨#[], #[.int .i64 0, .slice none 0 0, .int .i64 0], []⟩ 8 (by kernel_rfl) (by kernel_rfl) (by kernel_rfl) (by kernel_rfl)) ?_
  intro W base args ds gs before hval0 hW hcnd _
  have hval : ∀ (j : Nat) t v, Try.f3.params[j]? = some t → args[j]? = some v → Value.okWide Try.prog W .any base t v := hval0
  have hW' := hW
  obtain ⟨p, q, hA0, hV, rfl, hfz, hnd⟩ := hW
  have hA : DataW.TrodAll enc Try.prog W 0 (fun _ => true) true Try.f3.params.toList args.toList ds p := hA0
  rw [Try.params3] at hA hval
  obtain ⟨v0, vs0, d0, ds0, p0, q0, hargs, rfl, rfl, h0, rr0⟩ := trodAll_cons hA
  obtain ⟨v1, vs1, d1, ds1, p1, q1, rfl, rfl, rfl, h1, rr1⟩ := trodAll_cons rr0
  obtain ⟨v2, vs2, d2, ds2, p2, q2, rfl, rfl, rfl, h2, rr2⟩ := trodAll_cons rr1
  obtain ⟨rfl, rfl, rfl⟩ := trodAll_nil rr2
  obtain rfl : args = #[v0, v1, v2] := by cases args; simp_all
  obtain ⟨rfl, rfl⟩ := trodVars_none hV
  have k0 := h0
  have lt0 : ∀ x ∈ p0, x.block < W.heap.size := by obtain ⟨m, hm⟩ := k0; exact DataW.trod_lt m _ _ _ hm
  obtain ⟨a0, rfl, _, _, w0⟩ := open_int Try.underlying3 (hval 0 3 v0 rfl rfl) h0
  have k1 := h1
  have lt1 : ∀ x ∈ p1, x.block < W.heap.size := by obtain ⟨m, hm⟩ := k1; exact DataW.trod_lt m _ _ _ hm
  obtain ⟨A1, n1, c1, rfl⟩ := okWide_slice Try.underlying22 (hval 1 22 v1 rfl rfl)
  obtain ⟨z1, r1, o1, m1⟩ := rows_open (F := 2) Try.underlying22 Try.underlying30 (by kernel_rfl) (by kernel_rfl) rfl (by decide) (by intro j f hj; match j, hj with | 0, hj => cases hj; exact Try.underlying3 | 1, hj => cases hj; exact Try.underlying3 | j + 2, hj => simp at hj) h1
  have k2 := h2
  have lt2 : ∀ x ∈ p2, x.block < W.heap.size := by obtain ⟨m, hm⟩ := k2; exact DataW.trod_lt m _ _ _ hm
  obtain ⟨a2, rfl, _, _, w2⟩ := open_int Try.underlying3 (hval 2 3 v2 rfl rfl) h2
  clear hA0 hval0
  refine (walk a0 A1 n1 c1 z1 a2 W w0 r1 o1 m1 w2).mono fun e W' ⟨he, bel⟩ => ?_
  subst he
  exact ⟨_, rfl, _, _, _, [], _, [], hW', trodAll_mk1 (shut_bool Try.underlying4 _), (trodAll_cons_mk (Below.trod laidOut (by kernel_rfl) (of_decide_eq_true (by kernel_rfl)) k0 bel lt0) (trodAll_cons_mk (Below.trod laidOut (by kernel_rfl) (of_decide_eq_true (by kernel_rfl)) k1 bel lt1) (trodAll_cons_mk (Below.trod laidOut (by kernel_rfl) (of_decide_eq_true (by kernel_rfl)) k2 bel lt2) trodAll_mk0))), rfl, bel.frame _, fun h => by cases h⟩

theorem over : Rows.ringPlaysRow.holds Try.pinned (OpenSpec.ofChange Rows.ringPlaysSpec) :=
  OpenClaim.holds_of_wide 3 Try.f3 rfl rfl rfl rfl rfl rfl rfl ⟨rfl, rfl, rfl, rfl, rfl⟩ rfl rfl rfl rfl rfl (by kernel_rfl) Try.func3 (by kernel_rfl)
    (of_decide_eq_true (by kernel_rfl)) (by unfold Func.isWrapper; first | (rw [if_pos (by decide +kernel)]; kernel_rfl) | (rw [if_neg (by decide +kernel)]; exact ⟨rfl, rfl⟩))
    (fun os started H enc _ => lifted os started H enc)

theorem proved : Rows.RingPlaysSaid := over
#print axioms proved
end Go.Proofs.Ytmomafhpbbmiaaa.ringPlays
