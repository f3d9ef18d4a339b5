/- Whatever is done, a session and the document's own go on alike (layer 32). -/
import Derived.Test.YtencgokpbfkeiaaDs
import Derived.Test.YtencgokpbfkeiaaNx0
import Derived.Test.YtencgokpbfkeiaaNx1
import Derived.Test.YtencgokpbfkeiaaNx2
import Derived.Test.YtencgokpbfkeiaaNx3
set_option linter.unusedVariables false
set_option linter.unusedSimpArgs false
namespace Go.Proofs.Ytencgokpbfkeiaa
open Go.ChangeShapes Go.WideShapes Go.ChangeAt Go.RowKit
/-- which phase can come behind which -/
def nx (p q : Int) : Prop := (p = 0 ∧ (q = 1 ∨ q = 2 ∨ q = 4)) ∨ (p = 1 ∧ (q = 0 ∨ q = 1 ∨ q = 2 ∨ q = 4)) ∨ (p = 2 ∧ (q = 3 ∨ q = 4)) ∨ (p = 3 ∧ (q = 0 ∨ q = 4))
theorem next_any (p q : Int) (h : nx p q) (w : World) : Calls Try.prog 48 #[.int .i64 p, .int .i64 q] w fun e w' => e = .returned (.bool true) ∧ Below w.heap.size w w' := by
  rcases h with ⟨rfl, rfl | rfl | rfl⟩ | ⟨rfl, rfl | rfl | rfl | rfl⟩ | ⟨rfl, rfl | rfl⟩ | ⟨rfl, rfl | rfl⟩
  · exact next_0_1 w
  · exact next_0_2 w
  · exact next_0_4 w
  · exact next_1_0 w
  · exact next_1_1 w
  · exact next_1_2 w
  · exact next_1_4 w
  · exact next_2_3 w
  · exact next_2_4 w
  · exact next_3_0 w
  · exact next_3_4 w
theorem Se.stays {w w' : World} {s : Nat} {ph : Int} {r : Rq} {tr bu : Int} (h : Se w s ph r tr bu) (ho : Only (fun _ => False) w w') : Se w' s ph r tr bu ∧ Only (fun i => i = s) w w' := ⟨h.blk_ ho, ho.mono (fun _ _ h => h.elim)⟩
def Goes (s x : Nat) (ph : Int) (r : Rq) (tr bu : Int) (a0 a1 a2 a3 a4 a5 a6 a7 a8 a9 a10 a11 a12 a13 a14 a15 a16 a17 a18 : Int) (w : World) : Prop := ∃ (ph' : Int) (r' : Rq) (tr' : Int), (0 ≤ ph' ∧ ph' ≤ 4) ∧ (0 ≤ tr' ∧ tr' ≤ tr + 1) ∧ (ph' = 0 ∨ ph' = 4 → r' = Rq.zero) ∧ (ph' = ph ∨ nx ph ph') ∧
    Calls Try.prog 43 #[.pointer (some ⟨s, 0, none⟩), .pointer (some ⟨x, 0, none⟩), .agg #[.int .i64 a0, .int .i64 a1, .int .i64 a2, .int .i64 a3, .int .i64 a4, .int .i64 a5, .int .i64 a6, .int .i64 a7, .int .i64 a8, .int .i64 a9, .int .i64 a10, .int .i64 a11, .int .i64 a12, .int .i64 a13, .int .i64 a14, .int .i64 a15, .int .i64 a16, .int .i64 a17, .int .i64 a18]] w fun e w' => e = .returned (.bool true) ∧ (Se w' s ph' r' tr' bu ∧ Sx w' x ph' r' tr' bu) ∧ Only (fun i => i = s ∨ i = x) w w'
theorem goes_1 (s x : Nat) (ph : Int) (r : Rq) (tr bu : Int) (a0 a1 a2 a3 a4 a5 a6 a7 a8 a9 a10 a11 a12 a13 a14 a15 a16 a17 a18 : Int) (w : World) (hs : Se w s ph r tr bu) (hx : Sx w x ph r tr bu) (hp : 0 ≤ ph ∧ ph ≤ 4) (ht : 0 ≤ tr ∧ tr ≤ 90000) (hz : ph = 0 ∨ ph = 4 → r = Rq.zero) (hk : a0 = 1) : Goes s x ph r tr bu a0 a1 a2 a3 a4 a5 a6 a7 a8 a9 a10 a11 a12 a13 a14 a15 a16 a17 a18 w := by
  by_cases h1 : ph = 1
  · subst h1
    by_cases h2 : tr + 1 = bu
    · exact ⟨2, r, tr + 1, by omega, by omega, fun h => by omega, .inr (by simp [nx]), does_1 s x _ _ _ _ (2) (r) (tr + 1) 0 a0 a1 a2 a3 a4 a5 a6 a7 a8 a9 a10 a11 a12 a13 a14 a15 a16 a17 a18 w hs hx hk (fun w hs => s_fail_end s 1 r tr bu w hs rfl (by omega) h2) (fun w hs => x_fail_end x 1 r tr bu w hs rfl (by omega) h2)⟩
    · exact ⟨1, r, tr + 1, by omega, by omega, fun h => by omega, .inl rfl, does_1 s x _ _ _ _ (1) (r) (tr + 1) 0 a0 a1 a2 a3 a4 a5 a6 a7 a8 a9 a10 a11 a12 a13 a14 a15 a16 a17 a18 w hs hx hk (fun w hs => s_fail_on s 1 r tr bu w hs rfl (by omega) h2) (fun w hs => x_fail_on x 1 r tr bu w hs rfl (by omega) h2)⟩
  · exact ⟨ph, r, tr, hp, by omega, hz, .inl rfl, does_1 s x _ _ _ _ (ph) (r) (tr) 10 a0 a1 a2 a3 a4 a5 a6 a7 a8 a9 a10 a11 a12 a13 a14 a15 a16 a17 a18 w hs hx hk (fun w hs => (s_fail_no s ph r tr bu w hs h1).mono fun e w' h => ⟨h.1, hs.stays h.2⟩) (fun w hs => x_fail_no x ph r tr bu w hs h1)⟩
theorem goes_2 (s x : Nat) (ph : Int) (r : Rq) (tr bu : Int) (a0 a1 a2 a3 a4 a5 a6 a7 a8 a9 a10 a11 a12 a13 a14 a15 a16 a17 a18 : Int) (w : World) (hs : Se w s ph r tr bu) (hx : Sx w x ph r tr bu) (hp : 0 ≤ ph ∧ ph ≤ 4) (ht : 0 ≤ tr ∧ tr ≤ 90000) (hz : ph = 0 ∨ ph = 4 → r = Rq.zero) (hk : a0 = 2) : Goes s x ph r tr bu a0 a1 a2 a3 a4 a5 a6 a7 a8 a9 a10 a11 a12 a13 a14 a15 a16 a17 a18 w := by
  by_cases h1 : ph = 2
  · subst h1
    exact ⟨3, r, tr, by omega, by omega, fun h => by omega, .inr (by simp [nx]), does_2 s x _ _ _ _ (3) (r) (tr) 0 a0 a1 a2 a3 a4 a5 a6 a7 a8 a9 a10 a11 a12 a13 a14 a15 a16 a17 a18 w hs hx hk (fun w hs => s_grant s 2 r tr bu w hs rfl) (fun w hs => x_grant x 2 r tr bu w hs rfl)⟩
  · exact ⟨ph, r, tr, hp, by omega, hz, .inl rfl, does_2 s x _ _ _ _ (ph) (r) (tr) 10 a0 a1 a2 a3 a4 a5 a6 a7 a8 a9 a10 a11 a12 a13 a14 a15 a16 a17 a18 w hs hx hk (fun w hs => (s_grant_no s ph r tr bu w hs h1).mono fun e w' h => ⟨h.1, hs.stays h.2⟩) (fun w hs => x_grant_no x ph r tr bu w hs h1)⟩
theorem goes_3 (s x : Nat) (ph : Int) (r : Rq) (tr bu : Int) (a0 a1 a2 a3 a4 a5 a6 a7 a8 a9 a10 a11 a12 a13 a14 a15 a16 a17 a18 : Int) (w : World) (hs : Se w s ph r tr bu) (hx : Sx w x ph r tr bu) (hp : 0 ≤ ph ∧ ph ≤ 4) (ht : 0 ≤ tr ∧ tr ≤ 90000) (hz : ph = 0 ∨ ph = 4 → r = Rq.zero) (hk : a0 = 3) : Goes s x ph r tr bu a0 a1 a2 a3 a4 a5 a6 a7 a8 a9 a10 a11 a12 a13 a14 a15 a16 a17 a18 w := by
  by_cases h1 : ph = 1
  · subst h1
    exact ⟨0, Rq.zero, tr, by omega, by omega, fun _ => rfl, .inr (by simp [nx]), does_3 s x _ _ _ _ (0) (Rq.zero) (tr) 0 r a0 a1 a2 a3 a4 a5 a6 a7 a8 a9 a10 a11 a12 a13 a14 a15 a16 a17 a18 w hs hx hk (fun w hs => s_finish_1 s 1 r tr bu w hs rfl) (fun w hs => x_finish_1 x 1 r tr bu w hs rfl)⟩
  · by_cases h3 : ph = 3
    · subst h3
      exact ⟨0, Rq.zero, tr, by omega, by omega, fun _ => rfl, .inr (by simp [nx]), does_3 s x _ _ _ _ (0) (Rq.zero) (tr) 0 r a0 a1 a2 a3 a4 a5 a6 a7 a8 a9 a10 a11 a12 a13 a14 a15 a16 a17 a18 w hs hx hk (fun w hs => s_finish_3 s 3 r tr bu w hs rfl) (fun w hs => x_finish_3 x 3 r tr bu w hs rfl)⟩
    · exact ⟨ph, r, tr, hp, by omega, hz, .inl rfl, does_3 s x _ _ _ _ (ph) (r) (tr) 10 Rq.zero a0 a1 a2 a3 a4 a5 a6 a7 a8 a9 a10 a11 a12 a13 a14 a15 a16 a17 a18 w hs hx hk (fun w hs => s_finish_no s ph r tr bu w hs ⟨h1, h3⟩) (fun w hs => x_finish_no x ph r tr bu w hs ⟨h1, h3⟩)⟩
theorem goes_4 (s x : Nat) (ph : Int) (r : Rq) (tr bu : Int) (a0 a1 a2 a3 a4 a5 a6 a7 a8 a9 a10 a11 a12 a13 a14 a15 a16 a17 a18 : Int) (w : World) (hs : Se w s ph r tr bu) (hx : Sx w x ph r tr bu) (hp : 0 ≤ ph ∧ ph ≤ 4) (ht : 0 ≤ tr ∧ tr ≤ 90000) (hz : ph = 0 ∨ ph = 4 → r = Rq.zero) (hk : a0 = 4) : Goes s x ph r tr bu a0 a1 a2 a3 a4 a5 a6 a7 a8 a9 a10 a11 a12 a13 a14 a15 a16 a17 a18 w := by
  by_cases h4 : ph = 4
  · subst h4
    obtain rfl := hz (.inr rfl)
    exact ⟨4, Rq.zero, tr, by omega, by omega, fun _ => rfl, .inl rfl, does_4 s x _ _ _ _ (4) (Rq.zero) (tr) 0 Rq.zero a0 a1 a2 a3 a4 a5 a6 a7 a8 a9 a10 a11 a12 a13 a14 a15 a16 a17 a18 w hs hx hk (fun w hs => s_abort_4 s 4 Rq.zero tr bu w hs rfl) (fun w hs => x_abort_4 x 4 Rq.zero tr bu w hs rfl)⟩
  · have hn : nx ph 4 := by
      have hq : ph = 0 ∨ ph = 1 ∨ ph = 2 ∨ ph = 3 := by omega
      rcases hq with rfl | rfl | rfl | rfl <;> simp [nx]
    by_cases h0 : ph = 0
    · subst h0
      obtain rfl := hz (.inl rfl)
      exact ⟨4, Rq.zero, tr, by omega, by omega, fun _ => rfl, .inr hn, does_4 s x _ _ _ _ (4) (Rq.zero) (tr) 0 Rq.zero a0 a1 a2 a3 a4 a5 a6 a7 a8 a9 a10 a11 a12 a13 a14 a15 a16 a17 a18 w hs hx hk (fun w hs => s_abort s 0 Rq.zero tr bu w hs (by omega)) (fun w hs => x_abort_0 x 0 Rq.zero tr bu w hs rfl)⟩
    · exact ⟨4, Rq.zero, tr, by omega, by omega, fun _ => rfl, .inr hn, does_4 s x _ _ _ _ (4) (Rq.zero) (tr) ph r a0 a1 a2 a3 a4 a5 a6 a7 a8 a9 a10 a11 a12 a13 a14 a15 a16 a17 a18 w hs hx hk (fun w hs => s_abort s ph r tr bu w hs h4) (fun w hs => x_abort_on x ph r tr bu w hs ⟨h0, h4⟩)⟩
theorem goes_5 (s x : Nat) (ph : Int) (r : Rq) (tr bu : Int) (a0 a1 a2 a3 a4 a5 a6 a7 a8 a9 a10 a11 a12 a13 a14 a15 a16 a17 a18 : Int) (w : World) (hs : Se w s ph r tr bu) (hx : Sx w x ph r tr bu) (hp : 0 ≤ ph ∧ ph ≤ 4) (ht : 0 ≤ tr ∧ tr ≤ 90000) (hz : ph = 0 ∨ ph = 4 → r = Rq.zero) (hk : a0 < 1 ∨ 4 < a0) : Goes s x ph r tr bu a0 a1 a2 a3 a4 a5 a6 a7 a8 a9 a10 a11 a12 a13 a14 a15 a16 a17 a18 w := by
  by_cases h4 : ph = 4
  · exact ⟨ph, r, tr, hp, by omega, hz, .inl rfl, does_5 s x _ _ _ _ (ph) (r) (tr) 10 a0 a1 a2 a3 a4 a5 a6 a7 a8 a9 a10 a11 a12 a13 a14 a15 a16 a17 a18 w hs hx hk (fun w hs => (start_gone s ph r (⟨a1, a2, a3, a4, a5, a6, a7, a8, ⟨a9, a10, a11, a12, a13, a14, a15, a16, a17, a18⟩⟩ : Rq) tr bu w hs h4).mono fun e w' h => ⟨h.1, hs.stays (Only.of_below0 h.2)⟩) (fun w hs => x_start_gone x ph r tr bu (⟨a1, a2, a3, a4, a5, a6, a7, a8, ⟨a9, a10, a11, a12, a13, a14, a15, a16, a17, a18⟩⟩ : Rq) w hs h4)⟩
  · cases hg : (⟨a1, a2, a3, a4, a5, a6, a7, a8, ⟨a9, a10, a11, a12, a13, a14, a15, a16, a17, a18⟩⟩ : Rq).good with
    | false => exact ⟨ph, r, tr, hp, by omega, hz, .inl rfl, does_5 s x _ _ _ _ (ph) (r) (tr) 8 a0 a1 a2 a3 a4 a5 a6 a7 a8 a9 a10 a11 a12 a13 a14 a15 a16 a17 a18 w hs hx hk (fun w hs => (start_form s ph r (⟨a1, a2, a3, a4, a5, a6, a7, a8, ⟨a9, a10, a11, a12, a13, a14, a15, a16, a17, a18⟩⟩ : Rq) tr bu w hs h4 hg).mono fun e w' h => ⟨h.1, hs.stays h.2⟩) (fun w hs => x_start_form x ph r tr bu (⟨a1, a2, a3, a4, a5, a6, a7, a8, ⟨a9, a10, a11, a12, a13, a14, a15, a16, a17, a18⟩⟩ : Rq) w hs h4 hg)⟩
    | true =>
      by_cases h0 : ph = 0
      · subst h0
        by_cases hk2 : (⟨a1, a2, a3, a4, a5, a6, a7, a8, ⟨a9, a10, a11, a12, a13, a14, a15, a16, a17, a18⟩⟩ : Rq).k = 2
        · by_cases hb : 0 < bu
          · exact ⟨1, (⟨a1, a2, a3, a4, a5, a6, a7, a8, ⟨a9, a10, a11, a12, a13, a14, a15, a16, a17, a18⟩⟩ : Rq).only, 0, by omega, by omega, fun h => by omega, .inr (by simp [nx]), does_5 s x _ _ _ _ (1) ((⟨a1, a2, a3, a4, a5, a6, a7, a8, ⟨a9, a10, a11, a12, a13, a14, a15, a16, a17, a18⟩⟩ : Rq).only) (0) 0 a0 a1 a2 a3 a4 a5 a6 a7 a8 a9 a10 a11 a12 a13 a14 a15 a16 a17 a18 w hs hx hk (fun w hs => start_reads s 0 r (⟨a1, a2, a3, a4, a5, a6, a7, a8, ⟨a9, a10, a11, a12, a13, a14, a15, a16, a17, a18⟩⟩ : Rq) tr bu w hs rfl hg hk2 hb) (fun w hs => x_start_reads x 0 r tr bu (⟨a1, a2, a3, a4, a5, a6, a7, a8, ⟨a9, a10, a11, a12, a13, a14, a15, a16, a17, a18⟩⟩ : Rq) w hs rfl hg hk2 hb)⟩
          · exact ⟨2, (⟨a1, a2, a3, a4, a5, a6, a7, a8, ⟨a9, a10, a11, a12, a13, a14, a15, a16, a17, a18⟩⟩ : Rq).only, 0, by omega, by omega, fun h => by omega, .inr (by simp [nx]), does_5 s x _ _ _ _ (2) ((⟨a1, a2, a3, a4, a5, a6, a7, a8, ⟨a9, a10, a11, a12, a13, a14, a15, a16, a17, a18⟩⟩ : Rq).only) (0) 0 a0 a1 a2 a3 a4 a5 a6 a7 a8 a9 a10 a11 a12 a13 a14 a15 a16 a17 a18 w hs hx hk (fun w hs => start_none s 0 r (⟨a1, a2, a3, a4, a5, a6, a7, a8, ⟨a9, a10, a11, a12, a13, a14, a15, a16, a17, a18⟩⟩ : Rq) tr bu w hs rfl hg hk2 hb) (fun w hs => x_start_none x 0 r tr bu (⟨a1, a2, a3, a4, a5, a6, a7, a8, ⟨a9, a10, a11, a12, a13, a14, a15, a16, a17, a18⟩⟩ : Rq) w hs rfl hg hk2 hb)⟩
        · exact ⟨2, (⟨a1, a2, a3, a4, a5, a6, a7, a8, ⟨a9, a10, a11, a12, a13, a14, a15, a16, a17, a18⟩⟩ : Rq).only, 0, by omega, by omega, fun h => by omega, .inr (by simp [nx]), does_5 s x _ _ _ _ (2) ((⟨a1, a2, a3, a4, a5, a6, a7, a8, ⟨a9, a10, a11, a12, a13, a14, a15, a16, a17, a18⟩⟩ : Rq).only) (0) 0 a0 a1 a2 a3 a4 a5 a6 a7 a8 a9 a10 a11 a12 a13 a14 a15 a16 a17 a18 w hs hx hk (fun w hs => start_change s 0 r (⟨a1, a2, a3, a4, a5, a6, a7, a8, ⟨a9, a10, a11, a12, a13, a14, a15, a16, a17, a18⟩⟩ : Rq) tr bu w hs rfl hg hk2) (fun w hs => x_start_change x 0 r tr bu (⟨a1, a2, a3, a4, a5, a6, a7, a8, ⟨a9, a10, a11, a12, a13, a14, a15, a16, a17, a18⟩⟩ : Rq) w hs rfl hg hk2)⟩
      · exact ⟨ph, r, tr, hp, by omega, hz, .inl rfl, does_5 s x _ _ _ _ (ph) (r) (tr) 7 a0 a1 a2 a3 a4 a5 a6 a7 a8 a9 a10 a11 a12 a13 a14 a15 a16 a17 a18 w hs hx hk (fun w hs => (start_busy s ph r (⟨a1, a2, a3, a4, a5, a6, a7, a8, ⟨a9, a10, a11, a12, a13, a14, a15, a16, a17, a18⟩⟩ : Rq) tr bu w hs h4 hg h0).mono fun e w' h => ⟨h.1, hs.stays h.2⟩) (fun w hs => x_start_busy x ph r tr bu (⟨a1, a2, a3, a4, a5, a6, a7, a8, ⟨a9, a10, a11, a12, a13, a14, a15, a16, a17, a18⟩⟩ : Rq) w hs h4 hg h0)⟩
theorem goes_any (s x : Nat) (ph : Int) (r : Rq) (tr bu : Int) (a0 a1 a2 a3 a4 a5 a6 a7 a8 a9 a10 a11 a12 a13 a14 a15 a16 a17 a18 : Int) (w : World) (hs : Se w s ph r tr bu) (hx : Sx w x ph r tr bu) (hp : 0 ≤ ph ∧ ph ≤ 4) (ht : 0 ≤ tr ∧ tr ≤ 90000) (hz : ph = 0 ∨ ph = 4 → r = Rq.zero) : Goes s x ph r tr bu a0 a1 a2 a3 a4 a5 a6 a7 a8 a9 a10 a11 a12 a13 a14 a15 a16 a17 a18 w := by
  by_cases h1 : a0 = 1
  · exact goes_1 s x ph r tr bu a0 a1 a2 a3 a4 a5 a6 a7 a8 a9 a10 a11 a12 a13 a14 a15 a16 a17 a18 w hs hx hp ht hz h1
  · by_cases h2 : a0 = 2
    · exact goes_2 s x ph r tr bu a0 a1 a2 a3 a4 a5 a6 a7 a8 a9 a10 a11 a12 a13 a14 a15 a16 a17 a18 w hs hx hp ht hz h2
    · by_cases h3 : a0 = 3
      · exact goes_3 s x ph r tr bu a0 a1 a2 a3 a4 a5 a6 a7 a8 a9 a10 a11 a12 a13 a14 a15 a16 a17 a18 w hs hx hp ht hz h3
      · by_cases h4 : a0 = 4
        · exact goes_4 s x ph r tr bu a0 a1 a2 a3 a4 a5 a6 a7 a8 a9 a10 a11 a12 a13 a14 a15 a16 a17 a18 w hs hx hp ht hz h4
        · exact goes_5 s x ph r tr bu a0 a1 a2 a3 a4 a5 a6 a7 a8 a9 a10 a11 a12 a13 a14 a15 a16 a17 a18 w hs hx hp ht hz (by omega)
end Go.Proofs.Ytencgokpbfkeiaa
