/- What a queue of turns tells of any calls is as the document says. No condition. -/
import Derived.Test.YtmomafhpbbmiaaaRows
import Derived.WalkKit
import Derived.ProofKit
import Derived.OpenShut
import Derived.ChangeOld
import Derived.Below
import Derived.Outline
import Derived.Lib.SmallJoins
import Derived.Test.YtmomafhpbbmiaaaU4
set_option linter.unusedVariables false
namespace Go.Proofs.Ytmomafhpbbmiaaa.queuePlays
open Go.ChangeShapes Go.WideShapes Go.ChangeAt Go.RowKit Go.Joins

theorem own : ownKnob Try.prog.godebug = none := by kernel_rfl
theorem laidOut : laidOutB Try.prog = true := by kernel_rfl

/-- what the rounds keep: both queues in one state -/
def RQ (w wr : World) (most : Int) (rb r : Nat) : Prop := ∃ hl hd L tn, QX w.heap.size wr most (w.heap.size + 1) rb hl hd L tn ∧ 0 ≤ tn ∧ tn ≤ (r : Int) ∧ Below w.heap.size w wr
set_option maxRecDepth 100000 in
set_option maxHeartbeats 16000000 in
theorem walk (a0 : Int) (A1 : Option Addr) (n1 c1 : Nat) (z1 : List Int) (a2 : Int) (w : World) (w0 : (Lit.int .i64 a0).wf = true) (r1 : Reads w w.heap.size 2 A1 n1 (iv z1)) (o1 : okAll z1) (m1 : n1 ≤ c1 ∧ c1 ≤ maxLen) (w2 : (Lit.int .i64 a2).wf = true) :
    Calls Try.prog 6 #[.int .i64 a0, .slice A1 n1 c1, .int .i64 a2] w fun e w' => e = .returned (.bool true) ∧ Below w.heap.size w w' := by
  by_cases hbad : a0 < 1 ∨ 65536 < a0
  · have NW := q_new_no a0 hbad w
    have HN := Lib.hid NW
    clear NW
    rcases hbad with hb | hb
    · go_enter Try.func6, Try.ntmps6
      go_wp2_with fail
      refine (HN.out).mono ?_
      rintro e w1 ⟨rfl, rfl⟩
      go_wp2_with fail
      refine (lives33 _).mono ?_
      rintro e w2 ⟨rfl, hb2⟩
      go_wp2_with fail
      go_ret
      exact ⟨rfl, hb2⟩
    · have hb' : ¬ a0 < 1 := by omega
      go_enter Try.func6, Try.ntmps6
      go_wp2_with fail
      refine (HN.out).mono ?_
      rintro e w1 ⟨rfl, rfl⟩
      go_wp2_with fail
      refine (lives33 _).mono ?_
      rintro e w2 ⟨rfl, hb2⟩
      go_wp2_with fail
      go_ret
      exact ⟨rfl, hb2⟩
  · have y1 : 1 ≤ a0 := by omega
    have y2 : a0 ≤ 65536 := by omega
    clear hbad
    have HR := Lib.hid r1
    clear r1 o1
    go_enter Try.func6, Try.ntmps6
    go_wp2_with fail
    refine (q_new a0 ⟨y1, y2⟩ _).mono ?_
    rintro e w1 ⟨rfl, q1, k1⟩
    have HQ1 := Lib.hid q1
    have HB1 := Lib.hid k1
    clear q1 k1
    go_wp2_with fail
    obtain ⟨rb, hrb⟩ : ∃ rb, rb = w1.heap.size := ⟨_, rfl⟩
    have RQ0 : Hid (RQ w (w1.alloc (.cells #[.slice none 0 0, .bool false, .int .i64 a0, .int .i64 0] 51)) a0 rb 0) := Lib.hid ⟨false, 0, [], 0, ⟨_, _, none, 0, 0, HQ1.out.still (only_new (S := fun _ => False) _ _), by rw [hrb]; exact Blk.new w1 _ _, by rw [hrb]; exact HB1.out.size, ⟨rfl, Nat.le_refl _, by simp [maxLen], Reads.none_, fun ad hA => by cases hA⟩, fun _ => rfl⟩, by omega, by omega, HB1.out.alloc HB1.out.size _⟩
    rw [← hrb]
    clear hrb
    go_loopg [10] 60 (fun q i wr => ∃ r : Nat, q = 60 - r ∧ r ≤ 60 ∧ r ≤ n1 ∧ i = .int .i64 r ∧ Hid (RQ w wr a0 rb r))
    case atStart => exact ⟨0, rfl, by omega, by omega, rfl, RQ0⟩
    case round =>
      obtain ⟨r, rfl, hr, hrn, rfl, hRQ⟩ := hrel
      obtain ⟨hl, hd, L, tn, hX, ht0, ht1, kb⟩ := hRQ.out
      have HX := Lib.hid hX
      have HB := Lib.hid kb
      clear hRQ hX kb HB1 RQ0 HQ1
      by_cases hlt : r < n1
      · by_cases h60 : r < 60
        · obtain ⟨b, off, rfl, hbB, p0, p1⟩ := reads2 (HR.out.below HB.out) hlt
          generalize z1.getD (r * 2) 0 = s0 at *
          generalize z1.getD (r * 2 + 1) 0 = s1 at *
          go_upto_region 10 with fail
          go_cut [79] (fun t wx => t = .bool false ∧ Hid (RQ w wx a0 rb (r + 1)))
          case first =>
            refine wp_region_noPanic ?_
            refine wp_region_held_drew (S := (fun w' => w'.cell? ⟨b, off + r * 2, none⟩ = some (.int .i64 s0) ∧ w'.cell? ⟨b, off + r * 2 + 1, none⟩ = some (.int .i64 s1))) (by kernel_rfl) ?_ (fun hHeld => ?_)
            · exact ⟨p0, p1⟩
            refine wpAnyH_take (i := 0) (oi := ⟨_, _, _, _, _, _⟩) (v := ?_) rfl (by kernel_rfl) (by kernel_rfl) (by kernel_rfl) (fun _ _ _ h => h) (Or.inl ⟨by rfl, ?_⟩) (by assumption) ?_
            rotate_left
            · intro w hSw; (try dsimp only at hSw); go_split_ands; go_simp; try with_reducible rfl
            try simp only [Act.put, List.setIfInBounds_toArray, List.set_cons_zero, List.set_cons_succ]
            refine wpAnyH_take (i := 1) (oi := ⟨_, _, _, _, _, _⟩) (v := ?_) rfl (by kernel_rfl) (by kernel_rfl) (by kernel_rfl) (fun _ _ _ h => h) (Or.inl ⟨by rfl, ?_⟩) (by assumption) ?_
            rotate_left
            · intro w hSw; (try dsimp only at hSw); go_split_ands; go_simp; try with_reducible rfl
            try simp only [Act.put, List.setIfInBounds_toArray, List.set_cons_zero, List.set_cons_succ]
            refine wpAnyH_take (i := 2) (oi := ⟨_, _, _, _, _, _⟩) (v := ?_) rfl (by kernel_rfl) (by kernel_rfl) (by kernel_rfl) (fun _ _ _ h => h) (Or.inl ⟨by rfl, ?_⟩) (by assumption) ?_
            rotate_left
            · intro w hSw; (try dsimp only at hSw); go_split_ands; go_simp; try with_reducible rfl
            try simp only [Act.put, List.setIfInBounds_toArray, List.set_cons_zero, List.set_cons_succ]
            refine wpAnyH_take (i := 3) (oi := ⟨_, _, _, _, _, _⟩) (v := ?_) rfl (by kernel_rfl) (by kernel_rfl) (by kernel_rfl) (fun _ _ _ h => h) (Or.inl ⟨by rfl, ?_⟩) (by assumption) ?_
            rotate_left
            · intro w hSw; (try dsimp only at hSw); go_split_ands; go_simp; try with_reducible rfl
            try simp only [Act.put, List.setIfInBounds_toArray, List.set_cons_zero, List.set_cons_succ]
            refine wpAnyH_take (i := 4) (oi := ⟨_, _, _, _, _, _⟩) (v := ?_) rfl (by kernel_rfl) (by kernel_rfl) (by kernel_rfl) (fun _ _ _ h => h) (Or.inl ⟨by rfl, ?_⟩) (by assumption) ?_
            rotate_left
            · intro w hSw; (try dsimp only at hSw); go_split_ands; go_simp; try with_reducible rfl
            try simp only [Act.put, List.setIfInBounds_toArray, List.set_cons_zero, List.set_cons_succ]
            refine wpAnyH_take (i := 5) (oi := ⟨_, _, _, _, _, _⟩) (v := ?_) rfl (by kernel_rfl) (by kernel_rfl) (by kernel_rfl) (fun _ _ _ h => h) (Or.inl ⟨by rfl, ?_⟩) (by assumption) ?_
            rotate_left
            · intro w hSw; (try dsimp only at hSw); go_split_ands; go_simp; try with_reducible rfl
            try simp only [Act.put, List.setIfInBounds_toArray, List.set_cons_zero, List.set_cons_succ]
            refine wpAnyH_ready (rs := [6]) (by kernel_rfl) (by simp) ?_
            refine AllReadyH.cons (o := ⟨_, _, _, _, _, _⟩) rfl (fun K hK => ?_) AllReadyH.nil
            go_simp
            go_at_call 24
            refine (does_any w.heap.size _ a0 (w.heap.size + 1) rb hl hd L tn s0 s1 (HX.out.still ((Only.refl _ wr).drew)) HB.out.size (by omega)).mono ?_
            rintro e wa ⟨rfl, ⟨hl1, hd1, L1, tn1, hX1, ht1, ht2⟩, hB1⟩
            have HX1 := Lib.hid hX1
            have HB1 := Lib.hid (HB.out.trans (show Below w.heap.size wr wa from ⟨hB1.os, hB1.tape, hB1.output, hB1.size, hB1.block⟩))
            have e0wa : wa.cell? ⟨b, off + r * 2, none⟩ = some (.int .i64 s0) := (hB1.cell (p := ⟨b, off + r * 2, none⟩) hbB).trans p0
            have e1wa : wa.cell? ⟨b, off + r * 2 + 1, none⟩ = some (.int .i64 s1) := (hB1.cell (p := ⟨b, off + r * 2 + 1, none⟩) hbB).trans p1
            clear hX1 hB1
            obtain ⟨g, x, A, n, c, y1, y2, y3, y4, y5⟩ := HX1.out
            have Y1 := Lib.hid y1
            have Y2 := Lib.hid y2
            have Y4 := Lib.hid y4
            clear y1 y2 y4 y5
            refine hK.out _ _ ?_ (fun hHeld => ?_)
            · exact ⟨by assumption, by assumption⟩
            clear hK K
            try simp only [Act.put, List.setIfInBounds_toArray, List.set_cons_zero, List.set_cons_succ]
            refine wpAnyH_take (i := 7) (oi := ⟨_, _, _, _, _, _⟩) (v := ?_) rfl (by kernel_rfl) (by kernel_rfl) (by kernel_rfl) (fun _ _ _ h => h) (Or.inl ⟨by rfl, ?_⟩) (by assumption) ?_
            rotate_left
            · intro w hSw; (try dsimp only at hSw); go_split_ands; go_simp; try with_reducible rfl
            try simp only [Act.put, List.setIfInBounds_toArray, List.set_cons_zero, List.set_cons_succ]
            refine wpAnyH_take (i := 8) (oi := ⟨_, _, _, _, _, _⟩) (v := ?_) rfl (by kernel_rfl) (by kernel_rfl) (by kernel_rfl) (fun _ _ _ h => h) (Or.inl ⟨by rfl, ?_⟩) (by assumption) ?_
            rotate_left
            · intro w hSw; (try dsimp only at hSw); go_split_ands; go_simp; try with_reducible rfl
            try simp only [Act.put, List.setIfInBounds_toArray, List.set_cons_zero, List.set_cons_succ]
            refine wpAnyH_take (i := 9) (oi := ⟨_, _, _, _, _, _⟩) (v := ?_) rfl (by kernel_rfl) (by kernel_rfl) (by kernel_rfl) (fun _ _ _ h => h) (Or.inl ⟨by rfl, ?_⟩) (by assumption) ?_
            rotate_left
            · intro w hSw; (try dsimp only at hSw); go_split_ands; go_simp; try with_reducible rfl
            try simp only [Act.put, List.setIfInBounds_toArray, List.set_cons_zero, List.set_cons_succ]
            refine wpAnyH_take (i := 11) (oi := ⟨_, _, _, _, _, _⟩) (v := ?_) rfl (by kernel_rfl) (by kernel_rfl) (by kernel_rfl) (fun _ _ _ h => h) (Or.inl ⟨by rfl, ?_⟩) (by assumption) ?_
            rotate_left
            · intro w hSw; (try dsimp only at hSw); go_split_ands; go_simp; try with_reducible rfl
            try simp only [Act.put, List.setIfInBounds_toArray, List.set_cons_zero, List.set_cons_succ]
            refine wpAnyH_ready (rs := [10]) (by kernel_rfl) (by simp) ?_
            refine AllReadyH.cons (o := ⟨_, _, _, _, _, _⟩) rfl (fun K hK => ?_) AllReadyH.nil
            go_simp
            go_at_call 25
            refine (q_waits w.heap.size (w.heap.size + 1) g a0 x L1 hd1 hl1 tn1 wa Y1.out).mono ?_
            rintro e wb ⟨vb, rfl, fb, ob⟩
            obtain ⟨Ab, nb, cb, rfl, Lb⟩ := Lq.fresh (P := fun _ => False) fb (fun _ _ _ h => h)
            obtain ⟨A2, n2, c2, L2, W2⟩ := rf_wait rb A n c _ a0 tn1 wa hd1 hl1 L1 Y2.out Y4.out
            have W2' := W2 wb ob
            have L2' := L2.still ob
            have e0wb : wb.cell? ⟨b, off + r * 2, none⟩ = some (.int .i64 s0) := (World.cell?_of_block (ob.block b (Nat.lt_of_lt_of_le hbB HB1.out.size) (fun h => h))).trans e0wa
            have e1wb : wb.cell? ⟨b, off + r * 2 + 1, none⟩ = some (.int .i64 s1) := (World.cell?_of_block (ob.block b (Nat.lt_of_lt_of_le hbB HB1.out.size) (fun h => h))).trans e1wa
            have HLb := Lib.hid Lb
            have HL2 := Lib.hid L2'
            have HW2 := Lib.hid W2'
            have HOb := Lib.hid ob
            clear fb ob Lb L2 W2 W2' L2'
            refine hK.out _ _ ?_ (fun hHeld => ?_)
            · exact ⟨by assumption, by assumption⟩
            clear hK K
            try simp only [Act.put, List.setIfInBounds_toArray, List.set_cons_zero, List.set_cons_succ]
            refine wpAnyH_ready (rs := [12]) (by kernel_rfl) (by simp) ?_
            refine AllReadyH.cons (o := ⟨_, _, _, _, _, _⟩) rfl (fun K hK => ?_) AllReadyH.nil
            go_simp
            go_at_call 26
            refine (HW2.out).mono ?_
            rintro e wq ⟨rfl, rfl⟩
            refine hK.out _ _ ?_ (fun hHeld => ?_)
            · exact ⟨by assumption, by assumption⟩
            clear hK K
            try simp only [Act.put, List.setIfInBounds_toArray, List.set_cons_zero, List.set_cons_succ]
            refine wpAnyH_ready (rs := [13]) (by kernel_rfl) (by simp) ?_
            refine AllReadyH.cons (o := ⟨_, _, _, _, _, _⟩) rfl (fun K hK => ?_) AllReadyH.nil
            go_simp
            go_at_call 19
            refine (same_any Ab A2 nb n2 cb c2 _ _ L1 L1 wb HLb.out.2.2.2.1 HL2.out.2.2.2.1 (Nat.le_trans HLb.out.2.1 HLb.out.2.2.1) (Nat.le_trans HL2.out.2.1 HL2.out.2.2.1)).mono ?_
            rintro e wc0 ⟨he, q4, hq4⟩
            rw [decide_eq_true rfl] at he
            subst he
            have oc : Only (fun _ => False) wb wc0 := by rw [hq4]; exact (Only.refl _ _).drewN _
            have e0wc0 : wc0.cell? ⟨b, off + r * 2, none⟩ = some (.int .i64 s0) := by rw [hq4]; exact e0wb
            have e1wc0 : wc0.cell? ⟨b, off + r * 2 + 1, none⟩ = some (.int .i64 s1) := by rw [hq4]; exact e1wb
            have HOc := Lib.hid (HOb.out.trans oc (fun _ _ h => h))
            have t3 : wc0.cell? ⟨rb, 3, none⟩ = some (.int .i64 tn1) := by rw [(HOc.out.blk Y2.out (fun h => h)).cell]; rfl
            clear oc hq4
            refine hK.out _ _ ?_ (fun hHeld => ?_)
            · exact ⟨by assumption, by assumption⟩
            clear hK K
            try simp only [Act.put, List.setIfInBounds_toArray, List.set_cons_zero, List.set_cons_succ]
            refine wpAnyH_take (i := 14) (oi := ⟨_, _, _, _, _, _⟩) (v := ?_) rfl (by kernel_rfl) (by kernel_rfl) (by kernel_rfl) (fun _ _ _ h => h) (Or.inl ⟨by rfl, ?_⟩) (by assumption) ?_
            rotate_left
            · intro w hSw; (try dsimp only at hSw); go_split_ands; go_simp; try with_reducible rfl
            try simp only [Act.put, List.setIfInBounds_toArray, List.set_cons_zero, List.set_cons_succ]
            refine wpAnyH_take (i := 15) (oi := ⟨_, _, _, _, _, _⟩) (v := ?_) rfl (by kernel_rfl) (by kernel_rfl) (by kernel_rfl) (fun _ _ _ h => h) (Or.inl ⟨by rfl, ?_⟩) (by assumption) ?_
            rotate_left
            · intro w hSw; (try dsimp only at hSw); go_split_ands; go_simp; try with_reducible rfl
            try simp only [Act.put, List.setIfInBounds_toArray, List.set_cons_zero, List.set_cons_succ]
            refine wpAnyH_take (i := 16) (oi := ⟨_, _, _, _, _, _⟩) (v := ?_) rfl (by kernel_rfl) (by kernel_rfl) (by kernel_rfl) (fun _ _ _ h => h) (Or.inl ⟨by rfl, ?_⟩) (by assumption) ?_
            rotate_left
            · intro w hSw; (try dsimp only at hSw); go_split_ands; go_simp; try with_reducible rfl
            try simp only [Act.put, List.setIfInBounds_toArray, List.set_cons_zero, List.set_cons_succ]
            refine wpAnyH_take (i := 17) (oi := ⟨_, _, _, _, _, _⟩) (v := ?_) rfl (by kernel_rfl) (by kernel_rfl) (by kernel_rfl) (fun _ _ _ h => h) (Or.inl ⟨by rfl, ?_⟩) (by assumption) ?_
            rotate_left
            · intro w hSw; (try dsimp only at hSw); go_split_ands; go_simp; try with_reducible rfl
            try simp only [Act.put, List.setIfInBounds_toArray, List.set_cons_zero, List.set_cons_succ]
            refine wpAnyH_take (i := 19) (oi := ⟨_, _, _, _, _, _⟩) (v := ?_) rfl (by kernel_rfl) (by kernel_rfl) (by kernel_rfl) (fun _ _ _ h => h) (Or.inl ⟨by rfl, ?_⟩) (by assumption) ?_
            rotate_left
            · intro w hSw; (try dsimp only at hSw); go_split_ands; go_simp; try with_reducible rfl
            try simp only [Act.put, List.setIfInBounds_toArray, List.set_cons_zero, List.set_cons_succ]
            refine wpAnyH_take (i := 20) (oi := ⟨_, _, _, _, _, _⟩) (v := ?_) rfl (by kernel_rfl) (by kernel_rfl) (by kernel_rfl) (fun _ _ _ h => h) (Or.inl ⟨by rfl, ?_⟩) (by assumption) ?_
            rotate_left
            · intro w hSw; (try dsimp only at hSw); go_split_ands; go_simp; try with_reducible rfl
            try simp only [Act.put, List.setIfInBounds_toArray, List.set_cons_zero, List.set_cons_succ]
            refine wpAnyH_take (i := 21) (oi := ⟨_, _, _, _, _, _⟩) (v := ?_) rfl (by kernel_rfl) (by kernel_rfl) (by kernel_rfl) (fun _ _ _ h => h) (Or.inl ⟨by rfl, ?_⟩) (by assumption) ?_
            rotate_left
            · intro w hSw; (try dsimp only at hSw); go_split_ands; go_simp; try with_reducible rfl
            try simp only [Act.put, List.setIfInBounds_toArray, List.set_cons_zero, List.set_cons_succ]
            refine wpAnyH_ready (rs := [18, 22]) (by kernel_rfl) (by simp) ?_
            refine AllReadyH.cons (o := ⟨_, _, _, _, _, _⟩) rfl (fun K hK => ?_) (AllReadyH.cons (o := ⟨_, _, _, _, _, _⟩) rfl (fun K hK => ?_) AllReadyH.nil)
            · go_simp
              go_at_call 27
              refine (q_turns w.heap.size (w.heap.size + 1) g a0 x L1 hd1 hl1 tn1 wc0 (Y1.out.still HOc.out)).mono ?_
              rintro e wq ⟨rfl, rfl⟩
              refine hK.out _ _ ?_ (fun hHeld => ?_)
              · exact ⟨by assumption, by assumption⟩
              clear hK K
              try simp only [Act.put, List.setIfInBounds_toArray, List.set_cons_zero, List.set_cons_succ]
              refine wpAnyH_ready (rs := [22]) (by kernel_rfl) (by simp) ?_
              refine AllReadyH.cons (o := ⟨_, _, _, _, _, _⟩) rfl (fun K hK => ?_) AllReadyH.nil
              go_simp
              refine hK.out _ _ ?_ (fun hHeld => ?_)
              · exact ⟨by assumption, by assumption⟩
              clear hK K
              try simp only [Act.put, List.setIfInBounds_toArray, List.set_cons_zero, List.set_cons_succ]
              refine wpAnyH_take (i := 23) (oi := ⟨_, _, _, _, _, _⟩) (v := ?_) rfl (by kernel_rfl) (by kernel_rfl) (by kernel_rfl) (fun _ _ _ h => h) (Or.inl ⟨by rfl, ?_⟩) (by assumption) ?_
              rotate_left
              · intro w hSw; (try dsimp only at hSw); go_split_ands; go_simp; try with_reducible rfl
              try simp only [Act.put, List.setIfInBounds_toArray, List.set_cons_zero, List.set_cons_succ]
              refine wpAnyH_take (i := 24) (oi := ⟨_, _, _, _, _, _⟩) (v := ?_) rfl (by kernel_rfl) (by kernel_rfl) (by kernel_rfl) (fun _ _ _ h => h) (Or.inl ⟨by rfl, ?_⟩) (by assumption) ?_
              rotate_left
              · intro w hSw; (try dsimp only at hSw); go_split_ands; go_simp; try with_reducible rfl
              try simp only [Act.put, List.setIfInBounds_toArray, List.set_cons_zero, List.set_cons_succ]
              refine wpAnyH_done (by kernel_rfl) ?_ _
              refine NoPanic.normal ?_
              go_wp2_with fail
              go_meet
              exact ⟨rfl, Lib.hid ⟨_, _, _, _, HX1.out.still HOc.out, by omega, by omega, HB1.out.trans (HOc.out.below HB1.out.size (fun _ _ h => h))⟩⟩
            · go_simp
              refine hK.out _ _ ?_ (fun hHeld => ?_)
              · exact ⟨by assumption, by assumption⟩
              clear hK K
              try simp only [Act.put, List.setIfInBounds_toArray, List.set_cons_zero, List.set_cons_succ]
              refine wpAnyH_ready (rs := [18]) (by kernel_rfl) (by simp) ?_
              refine AllReadyH.cons (o := ⟨_, _, _, _, _, _⟩) rfl (fun K hK => ?_) AllReadyH.nil
              go_simp
              go_at_call 27
              refine (q_turns w.heap.size (w.heap.size + 1) g a0 x L1 hd1 hl1 tn1 wc0 (Y1.out.still HOc.out)).mono ?_
              rintro e wq ⟨rfl, rfl⟩
              refine hK.out _ _ ?_ (fun hHeld => ?_)
              · exact ⟨by assumption, by assumption⟩
              clear hK K
              try simp only [Act.put, List.setIfInBounds_toArray, List.set_cons_zero, List.set_cons_succ]
              refine wpAnyH_take (i := 23) (oi := ⟨_, _, _, _, _, _⟩) (v := ?_) rfl (by kernel_rfl) (by kernel_rfl) (by kernel_rfl) (fun _ _ _ h => h) (Or.inl ⟨by rfl, ?_⟩) (by assumption) ?_
              rotate_left
              · intro w hSw; (try dsimp only at hSw); go_split_ands; go_simp; try with_reducible rfl
              try simp only [Act.put, List.setIfInBounds_toArray, List.set_cons_zero, List.set_cons_succ]
              refine wpAnyH_take (i := 24) (oi := ⟨_, _, _, _, _, _⟩) (v := ?_) rfl (by kernel_rfl) (by kernel_rfl) (by kernel_rfl) (fun _ _ _ h => h) (Or.inl ⟨by rfl, ?_⟩) (by assumption) ?_
              rotate_left
              · intro w hSw; (try dsimp only at hSw); go_split_ands; go_simp; try with_reducible rfl
              try simp only [Act.put, List.setIfInBounds_toArray, List.set_cons_zero, List.set_cons_succ]
              refine wpAnyH_done (by kernel_rfl) ?_ _
              refine NoPanic.normal ?_
              go_wp2_with fail
              go_meet
              exact ⟨rfl, Lib.hid ⟨_, _, _, _, HX1.out.still HOc.out, by omega, by omega, HB1.out.trans (HOc.out.below HB1.out.size (fun _ _ h => h))⟩⟩
          obtain ⟨rfl, hRQ⟩ := hcut
          obtain ⟨hl1, hd1, L1, tn1, hX1, ht2, ht3, kb⟩ := hRQ.out
          have HX1 := Lib.hid hX1
          have HB1 := Lib.hid kb
          clear hRQ hX1 kb HX HB p0 p1
          cases hl1 with
          | true =>
            cases ht : Turn hd1 true a2 with
            | true =>
              obtain ⟨g, x, A, n, c, y1, y2, y3, y4, y5⟩ := HX1.out
              have Y1 := Lib.hid y1
              have Y2 := Lib.hid y2
              have Y4 := Lib.hid y4
              obtain ⟨b0, off0, m, rfl, rfl, hm_, hbl0, d2⟩ := Lq.head (a := hd1) (K := L1) y4
              clear hm_
              clear y1 y2 y4 y5
              go_wp2_with fail
              refine (q_holder w.heap.size (w.heap.size + 1) g a0 x L1 hd1 true tn1 wc Y1.out).mono ?_
              rintro e wd ⟨rfl, q5, hq5⟩
              have od : Only (fun _ => False) wc wd := by rw [hq5]; exact (Only.refl _ _).drewN _
              have AH := q_ahead_held w.heap.size (w.heap.size + 1) g a0 x L1 hd1 true tn1 a2 wd (Y1.out.still od) ht
              have AT : ∀ V, Only (fun _ => False) wc V → Calls Try.prog 13 #[.slice (some ⟨b0, off0, none⟩) (m + 1) c, .int .i64 a2] V fun e w' => e = .returned (.int .i64 0) ∧ V = w' := fun V hV => by
                have h := at_any (some ⟨b0, off0, none⟩) (m + 1) c _ (all true hd1 L1) a2 V (Y4.out.still hV).2.2.2.1 (Nat.le_trans Y4.out.2.1 Y4.out.2.2.1)
                obtain ⟨-, e⟩ := turn_head a2 hd1 true L1 ht
                have e2 : idx (all true hd1 L1) a2 = 0 := by simp [all, idx, e]
                rwa [e2] at h
              have HAH : Hid (Calls Try.prog 29 #[.pointer (some ⟨w.heap.size + 1, 0, none⟩), .int .i64 a2] wd fun e w' => e = .returned (.tuple #[.int .i64 0, .bool true]) ∧ Only (fun _ => False) wd w') := Lib.hid (AH.mono fun e w' h => ⟨h.1, by rw [← h.2]; exact Only.refl _ _⟩)
              have HAT := Lib.hid AT
              have HOd := Lib.hid od
              clear AH AT od hq5 ht
              go_wp2_with fail
              refine (HAH.out).mono ?_
              rintro e we ⟨rfl, oe⟩
              have HOe := Lib.hid (HOd.out.trans oe (fun _ _ h => h))
              have r0 : we.cell? ⟨rb, 0, none⟩ = some (.slice (some ⟨b0, off0, none⟩) (m + 1) c) := by rw [(HOe.out.blk Y2.out (fun h => h)).cell]; rfl
              have r1 : we.cell? ⟨rb, 1, none⟩ = some (.bool true) := by rw [(HOe.out.blk Y2.out (fun h => h)).cell]; rfl
              have r2 : we.cell? ⟨b0, off0, none⟩ = some (.int .i64 hd1) := (World.cell?_of_block (HOe.out.block b0 hbl0 (fun h => h))).trans d2
              have jj : (0 : Int) < ((m + 1 : Nat) : Int) := by omega
              clear oe
              go_wp2_with fail
              refine (HAT.out we HOe.out).mono ?_
              rintro e wq ⟨rfl, rfl⟩
              go_wp2_with fail
              go_roundg (60 - (r + 1))
              case measure => omega
              case rel => exact ⟨r + 1, rfl, by omega, by omega, by go_num, Lib.hid ⟨_, _, _, _, HX1.out.still HOe.out, by omega, by omega, HB1.out.trans (HOe.out.below HB1.out.size (fun _ _ h => h))⟩⟩
            | false =>
              by_cases hi : idx L1 a2 < 0
              · obtain ⟨g, x, A, n, c, y1, y2, y3, y4, y5⟩ := HX1.out
                have Y1 := Lib.hid y1
                have Y2 := Lib.hid y2
                have Y4 := Lib.hid y4
                obtain ⟨b0, off0, m, rfl, rfl, hm_, hbl0, d2⟩ := Lq.head (a := hd1) (K := L1) y4
                clear hm_
                clear y1 y2 y4 y5
                go_wp2_with fail
                refine (q_holder w.heap.size (w.heap.size + 1) g a0 x L1 hd1 true tn1 wc Y1.out).mono ?_
                rintro e wd ⟨rfl, q5, hq5⟩
                have od : Only (fun _ => False) wc wd := by rw [hq5]; exact (Only.refl _ _).drewN _
                have AH := q_ahead_no w.heap.size (w.heap.size + 1) g a0 x L1 hd1 true tn1 a2 wd (Y1.out.still od) ht hi
                have i1 := (idx_all hd1 true L1 a2 ht).1 hi
                have AT := fun V (hV : Only (fun _ => False) wc V) => at_any (some ⟨b0, off0, none⟩) (m + 1) c _ (all true hd1 L1) a2 V (Y4.out.still hV).2.2.2.1 (Nat.le_trans Y4.out.2.1 Y4.out.2.2.1)
                have HAH : Hid (Calls Try.prog 29 #[.pointer (some ⟨w.heap.size + 1, 0, none⟩), .int .i64 a2] wd fun e w' => e = .returned (.tuple #[.int .i64 0, .bool false]) ∧ Only (fun _ => False) wd w') := Lib.hid (AH.mono fun e w' h => ⟨h.1, Only.of_below0 h.2⟩)
                generalize idx (all true hd1 L1) a2 = p at *
                have HAT := Lib.hid AT
                have HOd := Lib.hid od
                clear AH AT od hq5 ht
                go_wp2_with fail
                refine (HAH.out).mono ?_
                rintro e we ⟨rfl, oe⟩
                have HOe := Lib.hid (HOd.out.trans oe (fun _ _ h => h))
                have r0 : we.cell? ⟨rb, 0, none⟩ = some (.slice (some ⟨b0, off0, none⟩) (m + 1) c) := by rw [(HOe.out.blk Y2.out (fun h => h)).cell]; rfl
                have r1 : we.cell? ⟨rb, 1, none⟩ = some (.bool true) := by rw [(HOe.out.blk Y2.out (fun h => h)).cell]; rfl
                have r2 : we.cell? ⟨b0, off0, none⟩ = some (.int .i64 hd1) := (World.cell?_of_block (HOe.out.block b0 hbl0 (fun h => h))).trans d2
                have jj : (0 : Int) < ((m + 1 : Nat) : Int) := by omega
                clear oe
                go_wp2_with fail
                refine (HAT.out we HOe.out).mono ?_
                rintro e wq ⟨rfl, rfl⟩
                go_wp2_with fail
                go_roundg (60 - (r + 1))
                case measure => omega
                case rel => exact ⟨r + 1, rfl, by omega, by omega, by go_num, Lib.hid ⟨_, _, _, _, HX1.out.still HOe.out, by omega, by omega, HB1.out.trans (HOe.out.below HB1.out.size (fun _ _ h => h))⟩⟩
              · obtain ⟨g, x, A, n, c, y1, y2, y3, y4, y5⟩ := HX1.out
                have Y1 := Lib.hid y1
                have Y2 := Lib.hid y2
                have Y4 := Lib.hid y4
                obtain ⟨b0, off0, m, rfl, rfl, hm_, hbl0, d2⟩ := Lq.head (a := hd1) (K := L1) y4
                clear hm_
                clear y1 y2 y4 y5
                go_wp2_with fail
                refine (q_holder w.heap.size (w.heap.size + 1) g a0 x L1 hd1 true tn1 wc Y1.out).mono ?_
                rintro e wd ⟨rfl, q5, hq5⟩
                have od : Only (fun _ => False) wc wd := by rw [hq5]; exact (Only.refl _ _).drewN _
                have AH := q_ahead_yes w.heap.size (w.heap.size + 1) g a0 x L1 hd1 true tn1 a2 wd (Y1.out.still od) ht (by omega)
                rw [← (idx_all hd1 true L1 a2 ht).2 (by omega)] at AH
                have i1 : 0 ≤ idx (all true hd1 L1) a2 := by rw [(idx_all hd1 true L1 a2 ht).2 (by omega)]; split <;> omega
                have AT := fun V (hV : Only (fun _ => False) wc V) => at_any (some ⟨b0, off0, none⟩) (m + 1) c _ (all true hd1 L1) a2 V (Y4.out.still hV).2.2.2.1 (Nat.le_trans Y4.out.2.1 Y4.out.2.2.1)
                have HAH : Hid (Calls Try.prog 29 #[.pointer (some ⟨w.heap.size + 1, 0, none⟩), .int .i64 a2] wd fun e w' => e = .returned (.tuple #[.int .i64 (idx (all true hd1 L1) a2), .bool true]) ∧ Only (fun _ => False) wd w') := Lib.hid (AH.mono fun e w' h => ⟨h.1, Only.of_below0 h.2⟩)
                generalize idx (all true hd1 L1) a2 = p at *
                have HAT := Lib.hid AT
                have HOd := Lib.hid od
                clear AH AT od hq5 ht
                go_wp2_with fail
                refine (HAH.out).mono ?_
                rintro e we ⟨rfl, oe⟩
                have HOe := Lib.hid (HOd.out.trans oe (fun _ _ h => h))
                have r0 : we.cell? ⟨rb, 0, none⟩ = some (.slice (some ⟨b0, off0, none⟩) (m + 1) c) := by rw [(HOe.out.blk Y2.out (fun h => h)).cell]; rfl
                have r1 : we.cell? ⟨rb, 1, none⟩ = some (.bool true) := by rw [(HOe.out.blk Y2.out (fun h => h)).cell]; rfl
                have r2 : we.cell? ⟨b0, off0, none⟩ = some (.int .i64 hd1) := (World.cell?_of_block (HOe.out.block b0 hbl0 (fun h => h))).trans d2
                have jj : (0 : Int) < ((m + 1 : Nat) : Int) := by omega
                clear oe
                go_wp2_with fail
                refine (HAT.out we HOe.out).mono ?_
                rintro e wq ⟨rfl, rfl⟩
                go_wp2_with fail
                go_roundg (60 - (r + 1))
                case measure => omega
                case rel => exact ⟨r + 1, rfl, by omega, by omega, by go_num, Lib.hid ⟨_, _, _, _, HX1.out.still HOe.out, by omega, by omega, HB1.out.trans (HOe.out.below HB1.out.size (fun _ _ h => h))⟩⟩
          | false =>
            have ht : Turn hd1 false a2 = false := rfl
            by_cases hi : idx L1 a2 < 0
            · obtain ⟨g, x, A, n, c, y1, y2, y3, y4, y5⟩ := HX1.out
              have Y1 := Lib.hid y1
              have Y2 := Lib.hid y2
              have Y4 := Lib.hid y4
              obtain rfl : hd1 = 0 := y5 rfl
              clear y1 y2 y4 y5
              go_wp2_with fail
              refine (q_holder w.heap.size (w.heap.size + 1) g a0 x L1 0 false tn1 wc Y1.out).mono ?_
              rintro e wd ⟨rfl, q5, hq5⟩
              have od : Only (fun _ => False) wc wd := by rw [hq5]; exact (Only.refl _ _).drewN _
              have AH := q_ahead_no w.heap.size (w.heap.size + 1) g a0 x L1 0 false tn1 a2 wd (Y1.out.still od) ht hi
              have i1 := (idx_all 0 false L1 a2 ht).1 hi
              have AT := fun V (hV : Only (fun _ => False) wc V) => at_any A n c _ (all false 0 L1) a2 V (Y4.out.still hV).2.2.2.1 (Nat.le_trans Y4.out.2.1 Y4.out.2.2.1)
              have HAH : Hid (Calls Try.prog 29 #[.pointer (some ⟨w.heap.size + 1, 0, none⟩), .int .i64 a2] wd fun e w' => e = .returned (.tuple #[.int .i64 0, .bool false]) ∧ Only (fun _ => False) wd w') := Lib.hid (AH.mono fun e w' h => ⟨h.1, Only.of_below0 h.2⟩)
              generalize idx (all false 0 L1) a2 = p at *
              have HAT := Lib.hid AT
              have HOd := Lib.hid od
              clear AH AT od hq5 ht
              go_wp2_with fail
              refine (HAH.out).mono ?_
              rintro e we ⟨rfl, oe⟩
              have HOe := Lib.hid (HOd.out.trans oe (fun _ _ h => h))
              have r0 : we.cell? ⟨rb, 0, none⟩ = some (.slice A n c) := by rw [(HOe.out.blk Y2.out (fun h => h)).cell]; rfl
              have r1 : we.cell? ⟨rb, 1, none⟩ = some (.bool false) := by rw [(HOe.out.blk Y2.out (fun h => h)).cell]; rfl
              clear oe
              go_wp2_with fail
              refine (HAT.out we HOe.out).mono ?_
              rintro e wq ⟨rfl, rfl⟩
              go_wp2_with fail
              go_roundg (60 - (r + 1))
              case measure => omega
              case rel => exact ⟨r + 1, rfl, by omega, by omega, by go_num, Lib.hid ⟨_, _, _, _, HX1.out.still HOe.out, by omega, by omega, HB1.out.trans (HOe.out.below HB1.out.size (fun _ _ h => h))⟩⟩
            · obtain ⟨g, x, A, n, c, y1, y2, y3, y4, y5⟩ := HX1.out
              have Y1 := Lib.hid y1
              have Y2 := Lib.hid y2
              have Y4 := Lib.hid y4
              obtain rfl : hd1 = 0 := y5 rfl
              clear y1 y2 y4 y5
              go_wp2_with fail
              refine (q_holder w.heap.size (w.heap.size + 1) g a0 x L1 0 false tn1 wc Y1.out).mono ?_
              rintro e wd ⟨rfl, q5, hq5⟩
              have od : Only (fun _ => False) wc wd := by rw [hq5]; exact (Only.refl _ _).drewN _
              have AH := q_ahead_yes w.heap.size (w.heap.size + 1) g a0 x L1 0 false tn1 a2 wd (Y1.out.still od) ht (by omega)
              rw [← (idx_all 0 false L1 a2 ht).2 (by omega)] at AH
              have i1 : 0 ≤ idx (all false 0 L1) a2 := by rw [(idx_all 0 false L1 a2 ht).2 (by omega)]; split <;> omega
              have AT := fun V (hV : Only (fun _ => False) wc V) => at_any A n c _ (all false 0 L1) a2 V (Y4.out.still hV).2.2.2.1 (Nat.le_trans Y4.out.2.1 Y4.out.2.2.1)
              have HAH : Hid (Calls Try.prog 29 #[.pointer (some ⟨w.heap.size + 1, 0, none⟩), .int .i64 a2] wd fun e w' => e = .returned (.tuple #[.int .i64 (idx (all false 0 L1) a2), .bool true]) ∧ Only (fun _ => False) wd w') := Lib.hid (AH.mono fun e w' h => ⟨h.1, Only.of_below0 h.2⟩)
              generalize idx (all false 0 L1) a2 = p at *
              have HAT := Lib.hid AT
              have HOd := Lib.hid od
              clear AH AT od hq5 ht
              go_wp2_with fail
              refine (HAH.out).mono ?_
              rintro e we ⟨rfl, oe⟩
              have HOe := Lib.hid (HOd.out.trans oe (fun _ _ h => h))
              have r0 : we.cell? ⟨rb, 0, none⟩ = some (.slice A n c) := by rw [(HOe.out.blk Y2.out (fun h => h)).cell]; rfl
              have r1 : we.cell? ⟨rb, 1, none⟩ = some (.bool false) := by rw [(HOe.out.blk Y2.out (fun h => h)).cell]; rfl
              clear oe
              go_wp2_with fail
              refine (HAT.out we HOe.out).mono ?_
              rintro e wq ⟨rfl, rfl⟩
              go_wp2_with fail
              go_roundg (60 - (r + 1))
              case measure => omega
              case rel => exact ⟨r + 1, rfl, by omega, by omega, by go_num, Lib.hid ⟨_, _, _, _, HX1.out.still HOe.out, by omega, by omega, HB1.out.trans (HOe.out.below HB1.out.size (fun _ _ h => h))⟩⟩
        · obtain rfl : r = 60 := by omega
          go_wp2_with fail
          refine (lives33 _).mono ?_
          rintro e w9 ⟨rfl, hb9⟩
          go_wp2_with fail
          go_ret
          exact ⟨rfl, (HB.out).trans (hb9.mono (HB.out).size)⟩

      · obtain rfl : r = n1 := by omega
        go_wp2_with fail
        refine (lives33 _).mono ?_
        rintro e w9 ⟨rfl, hb9⟩
        go_wp2_with fail
        go_ret
        exact ⟨rfl, (HB.out).trans (hb9.mono (HB.out).size)⟩

set_option maxRecDepth 100000 in
theorem lifted (os : Os) (started : os.Started) (H : Type) (enc : TypeId × Value → H) :
    ReturnsInHanded {} Try.checked os 6 .any (Rows.queuePlaysSpec.pre6 enc Try.prog Try.f6 Rows.queuePlaysRow.domain false) (Rows.queuePlaysSpec.post enc Try.prog Try.f6 false true false false) := by
  refine returnsInHanded_of_change (C := Try.checked) own started (by kernel_rfl) Try.func6
    (ChangeSpec.witness6 (enc := enc) (C := Try.checked) false ⟨#[], #[.int .i64 0, .slice none 0 0, .int .i64 0], []⟩ 8 (by kernel_rfl) (by kernel_rfl) (by kernel_rfl) (by kernel_rfl)) ?_
  intro W base args ds gs before hval0 hW hcnd _
  have hval : ∀ (j : Nat) t v, Try.f6.params[j]? = some t → args[j]? = some v → Value.okWide Try.prog W .any base t v := hval0
  have hW' := hW
  obtain ⟨p, q, hA0, hV, rfl, hfz, hnd⟩ := hW
  have hA : DataW.TrodAll enc Try.prog W 0 (fun _ => true) true Try.f6.params.toList args.toList ds p := hA0
  rw [Try.params6] at hA hval
  obtain ⟨v0, vs0, d0, ds0, p0, q0, hargs, rfl, rfl, h0, rr0⟩ := trodAll_cons hA
  obtain ⟨v1, vs1, d1, ds1, p1, q1, rfl, rfl, rfl, h1, rr1⟩ := trodAll_cons rr0
  obtain ⟨v2, vs2, d2, ds2, p2, q2, rfl, rfl, rfl, h2, rr2⟩ := trodAll_cons rr1
  obtain ⟨rfl, rfl, rfl⟩ := trodAll_nil rr2
  obtain rfl : args = #[v0, v1, v2] := by cases args; simp_all
  obtain ⟨rfl, rfl⟩ := trodVars_none hV
  have k0 := h0
  have lt0 : ∀ x ∈ p0, x.block < W.heap.size := by obtain ⟨m, hm⟩ := k0; exact DataW.trod_lt m _ _ _ hm
  obtain ⟨a0, rfl, _, _, w0⟩ := open_int Try.underlying3 (hval 0 3 v0 rfl rfl) h0
  have k1 := h1
  have lt1 : ∀ x ∈ p1, x.block < W.heap.size := by obtain ⟨m, hm⟩ := k1; exact DataW.trod_lt m _ _ _ hm
  obtain ⟨A1, n1, c1, rfl⟩ := okWide_slice Try.underlying45 (hval 1 45 v1 rfl rfl)
  obtain ⟨z1, r1, o1, m1⟩ := rows_open (F := 2) Try.underlying45 Try.underlying54 (by kernel_rfl) (by kernel_rfl) rfl (by decide) (by intro j f hj; match j, hj with | 0, hj => cases hj; exact Try.underlying3 | 1, hj => cases hj; exact Try.underlying3 | j + 2, hj => simp at hj) h1
  have k2 := h2
  have lt2 : ∀ x ∈ p2, x.block < W.heap.size := by obtain ⟨m, hm⟩ := k2; exact DataW.trod_lt m _ _ _ hm
  obtain ⟨a2, rfl, _, _, w2⟩ := open_int Try.underlying3 (hval 2 3 v2 rfl rfl) h2
  clear hA0 hval0
  refine (walk a0 A1 n1 c1 z1 a2 W w0 r1 o1 m1 w2).mono fun e W' ⟨he, bel⟩ => ?_
  subst he
  exact ⟨_, rfl, _, _, _, [], _, [], hW', trodAll_mk1 (shut_bool Try.underlying4 _), (trodAll_cons_mk (Below.trod laidOut (by kernel_rfl) (of_decide_eq_true (by kernel_rfl)) k0 bel lt0) (trodAll_cons_mk (Below.trod laidOut (by kernel_rfl) (of_decide_eq_true (by kernel_rfl)) k1 bel lt1) (trodAll_cons_mk (Below.trod laidOut (by kernel_rfl) (of_decide_eq_true (by kernel_rfl)) k2 bel lt2) trodAll_mk0))), rfl, bel.frame _, fun h => by cases h⟩

theorem over : Rows.queuePlaysRow.holds Try.pinned (OpenSpec.ofChange Rows.queuePlaysSpec) :=
  OpenClaim.holds_of_wide 6 Try.f6 rfl rfl rfl rfl rfl rfl rfl ⟨rfl, rfl, rfl, rfl, rfl⟩ rfl rfl rfl rfl rfl (by kernel_rfl) Try.func6 (by kernel_rfl)
    (of_decide_eq_true (by kernel_rfl)) (by unfold Func.isWrapper; first | (rw [if_pos (by decide +kernel)]; kernel_rfl) | (rw [if_neg (by decide +kernel)]; exact ⟨rfl, rfl⟩))
    (fun os started H enc _ => lifted os started H enc)

theorem proved : Rows.QueuePlaysSaid := over
#print axioms proved
end Go.Proofs.Ytmomafhpbbmiaaa.queuePlays
