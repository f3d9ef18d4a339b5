/- How often a session may fail (layer 32). -/
import Derived.Test.YtencgokpbfkeiaaSm
import Derived.Deep.LoopGhost
set_option linter.unusedVariables false
namespace Go.Proofs.Ytencgokpbfkeiaa
open Go.ChangeShapes Go.WideShapes Go.ChangeAt Go.RowKit
theorem s_fail_any (s : Nat) (r : Rq) (i n : Int) (w : World) (hs : Se w s 1 r i n) (h : 0 ≤ i ∧ i < n ∧ n < 30) :
    Calls Try.prog 51 #[.pointer (some ⟨s, 0, none⟩)] w fun e w' => e = .returned (.int .i64 0) ∧ Se w' s (if i + 1 = n then 2 else 1) r (i + 1) n ∧ Only (fun i => i = s) w w' := by
  by_cases h1 : i + 1 = n
  · rw [if_pos h1]; exact s_fail_end s 1 r i n w hs rfl (by omega) h1
  · rw [if_neg h1]; exact s_fail_on s 1 r i n w hs rfl (by omega) h1
set_option maxRecDepth 100000 in
set_option maxHeartbeats 4000000 in
theorem sb_low (a0 : Int) (a1_0 : Int) (a1_1 : Int) (a1_2 : Int) (a1_3 : Int) (a1_4 : Int) (a1_5 : Int) (a1_6 : Int) (a1_7 : Int) (a1_8 : Int) (a1_9 : Int) (w : World) (h0 : 0 ≤ a0 ∧ a0 < 256) (hk : a1_0 < 1) : Calls Try.prog 12 #[.int .u8 a0, .agg #[Value.int .i64 a1_0, Value.int .i64 a1_1, Value.int .i64 a1_2, Value.int .i64 a1_3, Value.int .i64 a1_4, Value.int .i64 a1_5, Value.int .i64 a1_6, Value.int .i64 a1_7, Value.int .i64 a1_8, Value.int .i64 a1_9]] w fun e w' => e = .returned (.bool true) ∧ Below w.heap.size w w' := by
  have HG : Hid (Rq.good (⟨2, 0, 0, 0, 0, 0, 0, 0, ⟨a1_0, a1_1, a1_2, a1_3, a1_4, a1_5, a1_6, a1_7, a1_8, a1_9⟩⟩ : Rq) = false) := Lib.hid (by simp [Rq.good]; omega)
  have t1 : decide (a1_0 < 1) = true := by simp; omega
  clear hk
  obtain ⟨n, hn⟩ : ∃ n, wrap64 (a0.tmod 30) = n := ⟨_, rfl⟩
  have HN : Hid (0 ≤ n ∧ n < 30) := Lib.hid (by
    have hm : 0 ≤ a0.tmod 30 ∧ a0.tmod 30 < 30 := ⟨Int.tmod_nonneg _ h0.1, Int.tmod_lt_of_pos _ (by omega)⟩
    have : wrap64 (a0.tmod 30) = a0.tmod 30 := by unfold wrap64; omega
    omega)
  clear h0
  have HB0 : Hid (Below w.heap.size w (w.alloc (.cells #[Value.int .i64 a1_0, Value.int .i64 a1_1, Value.int .i64 a1_2, Value.int .i64 a1_3, Value.int .i64 a1_4, Value.int .i64 a1_5, Value.int .i64 a1_6, Value.int .i64 a1_7, Value.int .i64 a1_8, Value.int .i64 a1_9] 27))) := Lib.hid ((Below.refl _ _).alloc (Nat.le_refl _) _)
  have Z0 : Hid ((w.alloc (.cells #[Value.int .i64 a1_0, Value.int .i64 a1_1, Value.int .i64 a1_2, Value.int .i64 a1_3, Value.int .i64 a1_4, Value.int .i64 a1_5, Value.int .i64 a1_6, Value.int .i64 a1_7, Value.int .i64 a1_8, Value.int .i64 a1_9] 27)).heap.size = w.heap.size + 1) := Lib.hid (by simp)
  go_enter Try.func12, Try.ntmps12
  go_wp2_with fail
  refine (s_new n ⟨HN.out.1, by have := HN.out.2; omega⟩ _).mono ?_
  rintro e w1 ⟨rfl, s1, k1⟩
  have HQ : Hid (Blk w1 w.heap.size 27 #[Value.int .i64 a1_0, Value.int .i64 a1_1, Value.int .i64 a1_2, Value.int .i64 a1_3, Value.int .i64 a1_4, Value.int .i64 a1_5, Value.int .i64 a1_6, Value.int .i64 a1_7, Value.int .i64 a1_8, Value.int .i64 a1_9]) := Lib.hid ((Only.of_below0 k1).blk (Blk.new w 27 _) (fun h => h))
  have HK := Lib.hid (HB0.out.trans (k1.mono (by simp)))
  have HS : Hid (Se w1 (w.heap.size + 1) 0 Rq.zero 0 n) := Lib.hid (by rw [← Z0.out]; exact s1)
  have HL : Hid (w.heap.size + 1 < w1.heap.size) := Lib.hid (Blk.lt HS.out)
  rw [Z0.out]
  clear s1 k1
  have q0 : w1.cell? ⟨w.heap.size, 0, none⟩ = some (.int .i64 a1_0) := by rw [HQ.out.cell]; rfl
  have q1 : w1.cell? ⟨w.heap.size, 1, none⟩ = some (.int .i64 a1_1) := by rw [HQ.out.cell]; rfl
  have q2 : w1.cell? ⟨w.heap.size, 2, none⟩ = some (.int .i64 a1_2) := by rw [HQ.out.cell]; rfl
  have q3 : w1.cell? ⟨w.heap.size, 3, none⟩ = some (.int .i64 a1_3) := by rw [HQ.out.cell]; rfl
  have q4 : w1.cell? ⟨w.heap.size, 4, none⟩ = some (.int .i64 a1_4) := by rw [HQ.out.cell]; rfl
  have q5 : w1.cell? ⟨w.heap.size, 5, none⟩ = some (.int .i64 a1_5) := by rw [HQ.out.cell]; rfl
  have q6 : w1.cell? ⟨w.heap.size, 6, none⟩ = some (.int .i64 a1_6) := by rw [HQ.out.cell]; rfl
  have q7 : w1.cell? ⟨w.heap.size, 7, none⟩ = some (.int .i64 a1_7) := by rw [HQ.out.cell]; rfl
  have q8 : w1.cell? ⟨w.heap.size, 8, none⟩ = some (.int .i64 a1_8) := by rw [HQ.out.cell]; rfl
  have q9 : w1.cell? ⟨w.heap.size, 9, none⟩ = some (.int .i64 a1_9) := by rw [HQ.out.cell]; rfl
  go_wp2_with fail
  refine (start_form (w.heap.size + 1) 0 _ (⟨2, 0, 0, 0, 0, 0, 0, 0, ⟨a1_0, a1_1, a1_2, a1_3, a1_4, a1_5, a1_6, a1_7, a1_8, a1_9⟩⟩ : Rq) 0 n w1 HS.out (by omega) HG.out).mono ?_
  rintro e w2 ⟨rfl, o2⟩
  have HK2 := Lib.hid (HK.out.trans (o2.below (by have := HL.out; omega) (fun _ _ h => h)))
  clear o2
  go_wp2_with fail
  refine (lives32 _).mono ?_
  rintro e w3 ⟨rfl, k3⟩
  have HK3 := Lib.hid (keepB HK2.out (sizeB HK2.out) k3)
  clear k3
  go_wp2_with fail
  go_ret
  exact ⟨rfl, HK3.out⟩
set_option maxRecDepth 100000 in
set_option maxHeartbeats 4000000 in
theorem sb_high (a0 : Int) (a1_0 : Int) (a1_1 : Int) (a1_2 : Int) (a1_3 : Int) (a1_4 : Int) (a1_5 : Int) (a1_6 : Int) (a1_7 : Int) (a1_8 : Int) (a1_9 : Int) (w : World) (h0 : 0 ≤ a0 ∧ a0 < 256) (hk : 7 < a1_0) : Calls Try.prog 12 #[.int .u8 a0, .agg #[Value.int .i64 a1_0, Value.int .i64 a1_1, Value.int .i64 a1_2, Value.int .i64 a1_3, Value.int .i64 a1_4, Value.int .i64 a1_5, Value.int .i64 a1_6, Value.int .i64 a1_7, Value.int .i64 a1_8, Value.int .i64 a1_9]] w fun e w' => e = .returned (.bool true) ∧ Below w.heap.size w w' := by
  have HG : Hid (Rq.good (⟨2, 0, 0, 0, 0, 0, 0, 0, ⟨a1_0, a1_1, a1_2, a1_3, a1_4, a1_5, a1_6, a1_7, a1_8, a1_9⟩⟩ : Rq) = false) := Lib.hid (by simp [Rq.good]; omega)
  have t1 : decide (a1_0 < 1) = false := by simp; omega
  have t2 : decide (7 < a1_0) = true := by simp; omega
  clear hk
  obtain ⟨n, hn⟩ : ∃ n, wrap64 (a0.tmod 30) = n := ⟨_, rfl⟩
  have HN : Hid (0 ≤ n ∧ n < 30) := Lib.hid (by
    have hm : 0 ≤ a0.tmod 30 ∧ a0.tmod 30 < 30 := ⟨Int.tmod_nonneg _ h0.1, Int.tmod_lt_of_pos _ (by omega)⟩
    have : wrap64 (a0.tmod 30) = a0.tmod 30 := by unfold wrap64; omega
    omega)
  clear h0
  have HB0 : Hid (Below w.heap.size w (w.alloc (.cells #[Value.int .i64 a1_0, Value.int .i64 a1_1, Value.int .i64 a1_2, Value.int .i64 a1_3, Value.int .i64 a1_4, Value.int .i64 a1_5, Value.int .i64 a1_6, Value.int .i64 a1_7, Value.int .i64 a1_8, Value.int .i64 a1_9] 27))) := Lib.hid ((Below.refl _ _).alloc (Nat.le_refl _) _)
  have Z0 : Hid ((w.alloc (.cells #[Value.int .i64 a1_0, Value.int .i64 a1_1, Value.int .i64 a1_2, Value.int .i64 a1_3, Value.int .i64 a1_4, Value.int .i64 a1_5, Value.int .i64 a1_6, Value.int .i64 a1_7, Value.int .i64 a1_8, Value.int .i64 a1_9] 27)).heap.size = w.heap.size + 1) := Lib.hid (by simp)
  go_enter Try.func12, Try.ntmps12
  go_wp2_with fail
  refine (s_new n ⟨HN.out.1, by have := HN.out.2; omega⟩ _).mono ?_
  rintro e w1 ⟨rfl, s1, k1⟩
  have HQ : Hid (Blk w1 w.heap.size 27 #[Value.int .i64 a1_0, Value.int .i64 a1_1, Value.int .i64 a1_2, Value.int .i64 a1_3, Value.int .i64 a1_4, Value.int .i64 a1_5, Value.int .i64 a1_6, Value.int .i64 a1_7, Value.int .i64 a1_8, Value.int .i64 a1_9]) := Lib.hid ((Only.of_below0 k1).blk (Blk.new w 27 _) (fun h => h))
  have HK := Lib.hid (HB0.out.trans (k1.mono (by simp)))
  have HS : Hid (Se w1 (w.heap.size + 1) 0 Rq.zero 0 n) := Lib.hid (by rw [← Z0.out]; exact s1)
  have HL : Hid (w.heap.size + 1 < w1.heap.size) := Lib.hid (Blk.lt HS.out)
  rw [Z0.out]
  clear s1 k1
  have q0 : w1.cell? ⟨w.heap.size, 0, none⟩ = some (.int .i64 a1_0) := by rw [HQ.out.cell]; rfl
  have q1 : w1.cell? ⟨w.heap.size, 1, none⟩ = some (.int .i64 a1_1) := by rw [HQ.out.cell]; rfl
  have q2 : w1.cell? ⟨w.heap.size, 2, none⟩ = some (.int .i64 a1_2) := by rw [HQ.out.cell]; rfl
  have q3 : w1.cell? ⟨w.heap.size, 3, none⟩ = some (.int .i64 a1_3) := by rw [HQ.out.cell]; rfl
  have q4 : w1.cell? ⟨w.heap.size, 4, none⟩ = some (.int .i64 a1_4) := by rw [HQ.out.cell]; rfl
  have q5 : w1.cell? ⟨w.heap.size, 5, none⟩ = some (.int .i64 a1_5) := by rw [HQ.out.cell]; rfl
  have q6 : w1.cell? ⟨w.heap.size, 6, none⟩ = some (.int .i64 a1_6) := by rw [HQ.out.cell]; rfl
  have q7 : w1.cell? ⟨w.heap.size, 7, none⟩ = some (.int .i64 a1_7) := by rw [HQ.out.cell]; rfl
  have q8 : w1.cell? ⟨w.heap.size, 8, none⟩ = some (.int .i64 a1_8) := by rw [HQ.out.cell]; rfl
  have q9 : w1.cell? ⟨w.heap.size, 9, none⟩ = some (.int .i64 a1_9) := by rw [HQ.out.cell]; rfl
  go_wp2_with fail
  refine (start_form (w.heap.size + 1) 0 _ (⟨2, 0, 0, 0, 0, 0, 0, 0, ⟨a1_0, a1_1, a1_2, a1_3, a1_4, a1_5, a1_6, a1_7, a1_8, a1_9⟩⟩ : Rq) 0 n w1 HS.out (by omega) HG.out).mono ?_
  rintro e w2 ⟨rfl, o2⟩
  have HK2 := Lib.hid (HK.out.trans (o2.below (by have := HL.out; omega) (fun _ _ h => h)))
  clear o2
  go_wp2_with fail
  refine (lives32 _).mono ?_
  rintro e w3 ⟨rfl, k3⟩
  have HK3 := Lib.hid (keepB HK2.out (sizeB HK2.out) k3)
  clear k3
  go_wp2_with fail
  go_ret
  exact ⟨rfl, HK3.out⟩
set_option maxRecDepth 100000 in
set_option maxHeartbeats 8000000 in
theorem sb_yes (a0 : Int) (a1_0 : Int) (a1_1 : Int) (a1_2 : Int) (a1_3 : Int) (a1_4 : Int) (a1_5 : Int) (a1_6 : Int) (a1_7 : Int) (a1_8 : Int) (a1_9 : Int) (w : World) (h0 : 0 ≤ a0 ∧ a0 < 256) (hk : 1 ≤ a1_0 ∧ a1_0 ≤ 7) : Calls Try.prog 12 #[.int .u8 a0, .agg #[Value.int .i64 a1_0, Value.int .i64 a1_1, Value.int .i64 a1_2, Value.int .i64 a1_3, Value.int .i64 a1_4, Value.int .i64 a1_5, Value.int .i64 a1_6, Value.int .i64 a1_7, Value.int .i64 a1_8, Value.int .i64 a1_9]] w fun e w' => e = .returned (.bool true) ∧ Below w.heap.size w w' := by
  have HG : Hid (Rq.good (⟨2, 0, 0, 0, 0, 0, 0, 0, ⟨a1_0, a1_1, a1_2, a1_3, a1_4, a1_5, a1_6, a1_7, a1_8, a1_9⟩⟩ : Rq) = true) := Lib.hid (by simp [Rq.good]; omega)
  have t1 : decide (a1_0 < 1) = false := by simp; omega
  have t2 : decide (7 < a1_0) = false := by simp; omega
  clear hk
  obtain ⟨n, hn⟩ : ∃ n, wrap64 (a0.tmod 30) = n := ⟨_, rfl⟩
  have HN : Hid (0 ≤ n ∧ n < 30) := Lib.hid (by
    have hm : 0 ≤ a0.tmod 30 ∧ a0.tmod 30 < 30 := ⟨Int.tmod_nonneg _ h0.1, Int.tmod_lt_of_pos _ (by omega)⟩
    have : wrap64 (a0.tmod 30) = a0.tmod 30 := by unfold wrap64; omega
    omega)
  clear h0
  have HB0 : Hid (Below w.heap.size w (w.alloc (.cells #[Value.int .i64 a1_0, Value.int .i64 a1_1, Value.int .i64 a1_2, Value.int .i64 a1_3, Value.int .i64 a1_4, Value.int .i64 a1_5, Value.int .i64 a1_6, Value.int .i64 a1_7, Value.int .i64 a1_8, Value.int .i64 a1_9] 27))) := Lib.hid ((Below.refl _ _).alloc (Nat.le_refl _) _)
  have Z0 : Hid ((w.alloc (.cells #[Value.int .i64 a1_0, Value.int .i64 a1_1, Value.int .i64 a1_2, Value.int .i64 a1_3, Value.int .i64 a1_4, Value.int .i64 a1_5, Value.int .i64 a1_6, Value.int .i64 a1_7, Value.int .i64 a1_8, Value.int .i64 a1_9] 27)).heap.size = w.heap.size + 1) := Lib.hid (by simp)
  go_enter Try.func12, Try.ntmps12
  go_wp2_with fail
  refine (s_new n ⟨HN.out.1, by have := HN.out.2; omega⟩ _).mono ?_
  rintro e w1 ⟨rfl, s1, k1⟩
  have HQ : Hid (Blk w1 w.heap.size 27 #[Value.int .i64 a1_0, Value.int .i64 a1_1, Value.int .i64 a1_2, Value.int .i64 a1_3, Value.int .i64 a1_4, Value.int .i64 a1_5, Value.int .i64 a1_6, Value.int .i64 a1_7, Value.int .i64 a1_8, Value.int .i64 a1_9]) := Lib.hid ((Only.of_below0 k1).blk (Blk.new w 27 _) (fun h => h))
  have HK := Lib.hid (HB0.out.trans (k1.mono (by simp)))
  have HS : Hid (Se w1 (w.heap.size + 1) 0 Rq.zero 0 n) := Lib.hid (by rw [← Z0.out]; exact s1)
  have HL : Hid (w.heap.size + 1 < w1.heap.size) := Lib.hid (Blk.lt HS.out)
  rw [Z0.out]
  clear s1 k1
  have q0 : w1.cell? ⟨w.heap.size, 0, none⟩ = some (.int .i64 a1_0) := by rw [HQ.out.cell]; rfl
  have q1 : w1.cell? ⟨w.heap.size, 1, none⟩ = some (.int .i64 a1_1) := by rw [HQ.out.cell]; rfl
  have q2 : w1.cell? ⟨w.heap.size, 2, none⟩ = some (.int .i64 a1_2) := by rw [HQ.out.cell]; rfl
  have q3 : w1.cell? ⟨w.heap.size, 3, none⟩ = some (.int .i64 a1_3) := by rw [HQ.out.cell]; rfl
  have q4 : w1.cell? ⟨w.heap.size, 4, none⟩ = some (.int .i64 a1_4) := by rw [HQ.out.cell]; rfl
  have q5 : w1.cell? ⟨w.heap.size, 5, none⟩ = some (.int .i64 a1_5) := by rw [HQ.out.cell]; rfl
  have q6 : w1.cell? ⟨w.heap.size, 6, none⟩ = some (.int .i64 a1_6) := by rw [HQ.out.cell]; rfl
  have q7 : w1.cell? ⟨w.heap.size, 7, none⟩ = some (.int .i64 a1_7) := by rw [HQ.out.cell]; rfl
  have q8 : w1.cell? ⟨w.heap.size, 8, none⟩ = some (.int .i64 a1_8) := by rw [HQ.out.cell]; rfl
  have q9 : w1.cell? ⟨w.heap.size, 9, none⟩ = some (.int .i64 a1_9) := by rw [HQ.out.cell]; rfl
  go_wp2_with fail
  refine (show Calls Try.prog 50 #[.pointer (some ⟨w.heap.size + 1, 0, none⟩), (⟨2, 0, 0, 0, 0, 0, 0, 0, ⟨a1_0, a1_1, a1_2, a1_3, a1_4, a1_5, a1_6, a1_7, a1_8, a1_9⟩⟩ : Rq).v] w1 (fun e w' => e = .returned (.int .i64 0) ∧ Se w' (w.heap.size + 1) (if 0 = n then 2 else 1) (⟨2, 0, 0, 0, 0, 0, 0, 0, ⟨a1_0, a1_1, a1_2, a1_3, a1_4, a1_5, a1_6, a1_7, a1_8, a1_9⟩⟩ : Rq).only 0 n ∧ Only (fun i => i = w.heap.size + 1) w1 w') from (by
    by_cases hb : 0 = n
    · rw [if_pos hb]; exact start_none _ 0 _ _ 0 n w1 HS.out rfl HG.out rfl (by omega)
    · rw [if_neg hb]; exact start_reads _ 0 _ _ 0 n w1 HS.out rfl HG.out rfl (by have := HN.out; omega))).mono ?_
  rintro e w2 ⟨rfl, s2, o2⟩
  obtain ⟨R, hR⟩ : ∃ R : Rq, R = (⟨2, 0, 0, 0, 0, 0, 0, 0, ⟨a1_0, a1_1, a1_2, a1_3, a1_4, a1_5, a1_6, a1_7, a1_8, a1_9⟩⟩ : Rq).only := ⟨_, rfl⟩
  rw [← hR] at s2
  clear hR
  have HS2 := Lib.hid s2
  have HK2 := Lib.hid (HK.out.trans (se_below (by omega) HL.out o2))
  clear s2 o2 q0 q1 q2 q3 q4 q5 q6 q7 q8 q9 HQ t1 t2
  go_wp2_with fail
  go_loopg [8] n.toNat (fun k i wr => ∃ j : Int, i = .int .i64 j ∧ 0 ≤ j ∧ j ≤ n ∧ (k : Int) = n - j ∧ Hid (Se wr (w.heap.size + 1) (if j = n then 2 else 1) R j n) ∧ Hid (Below w.heap.size w wr))
  case atStart => exact ⟨0, rfl, by omega, HN.out.1, by have := HN.out.1; omega, HS2, HK2⟩
  case round =>
    obtain ⟨j, rfl, hj0, hjn, hg, hs, hk⟩ := hrel
    by_cases hlt : j < n
    · have hs2 : Hid (Se wr (w.heap.size + 1) 1 R j n) := Lib.hid (by have h := hs.out; rw [if_neg (by omega)] at h; exact h)
      have HG2 := Lib.hid hg
      have HJ := Lib.hid (And.intro hj0 hjn)
      have t3 : decide (j < n) = true := by simp; omega
      have HLT := Lib.hid hlt
      have HW : Hid (wrap64 (j + 1) = j + 1) := Lib.hid (by unfold wrap64; have := HN.out; omega)
      clear hg hj0 hjn hlt
      go_wp2_with fail
      refine (s_phase _ 1 R j n wr hs2.out).mono ?_
      rintro e wq ⟨rfl, rfl⟩
      go_wp2_with fail
      refine (s_tries _ 1 R j n wr hs2.out).mono ?_
      rintro e wq ⟨rfl, rfl⟩
      go_wp2_with fail
      refine (s_fail_any _ R j n wr hs2.out ⟨HJ.out.1, HLT.out, HN.out.2⟩).mono ?_
      rintro e w4 ⟨rfl, s4, o4⟩
      have HS4 := Lib.hid s4
      have HK4 := Lib.hid (hk.out.trans (se_below (by omega) (Blk.lt hs2.out) o4))
      clear s4 o4
      go_wp2_with fail
      go_roundg (gk - 1)
      case measure => have := HG2.out; have := HLT.out; omega
      case rel => exact ⟨j + 1, by rw [HW.out], by have := HJ.out; omega, by have := HLT.out; omega, by have := HG2.out; have := HLT.out; omega, HS4, HK4⟩
    · have hs2 : Hid (Se wr (w.heap.size + 1) 2 R n n) := Lib.hid (by have h := hs.out; obtain rfl : j = n := (by omega); rw [if_pos rfl] at h; exact h)
      have t3 : decide (j < n) = false := by simp; omega
      have HKr := hk
      clear hg hj0 hjn hlt hs hk
      go_wp2_with fail
      refine (s_phase _ 2 R n n wr hs2.out).mono ?_
      rintro e wq ⟨rfl, rfl⟩
      go_wp2_with fail
      refine (s_fail_no _ 2 R n n wr hs2.out (by omega)).mono ?_
      rintro e w4 ⟨rfl, o4⟩
      have HK4 := Lib.hid (HKr.out.trans (o4.below (Nat.le_trans (by omega) (Nat.le_of_lt (Blk.lt hs2.out))) (fun _ _ h => h)))
      clear o4
      go_wp2_with fail
      refine (lives32 _).mono ?_
      rintro e w5 ⟨rfl, k5⟩
      have HK5 := Lib.hid (keepB HK4.out (sizeB HK4.out) k5)
      clear k5
      go_wp2_with fail
      go_ret
      exact ⟨rfl, HK5.out⟩
end Go.Proofs.Ytencgokpbfkeiaa
