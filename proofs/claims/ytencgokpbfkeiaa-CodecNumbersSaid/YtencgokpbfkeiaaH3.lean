/- A request with nothing but what its kinds look at: any (layer 29). -/
import Derived.Test.YtencgokpbfkeiaaH2
import Derived.Test.YtencgokpbfkeiaaJ
set_option linter.unusedVariables false
namespace Go.Proofs.Ytencgokpbfkeiaa
open Go.ChangeShapes Go.WideShapes Go.ChangeAt Go.RowKit
theorem only_any (r : Rq) (w : World) : Calls Try.prog 32 #[r.v] w fun e w' => e = .returned (r.only.v) ∧ Below w.heap.size w w' := by
  obtain ⟨rk, ck, pi, px, py, si, sl, sh, ⟨qk, qa, qb, qc, qd, qe, qf, qg, qx, qy⟩⟩ := r
  cases hg : Rq.good ⟨rk, ck, pi, px, py, si, sl, sh, ⟨qk, qa, qb, qc, qd, qe, qf, qg, qx, qy⟩⟩ with
  | false =>
    refine (only_no rk ck pi px py si sl sh qk qa qb qc qd qe qf qg qx qy w hg).mono fun e w' h => ⟨?_, h.2⟩
    rw [h.1]
    unfold Rq.only
    rw [if_neg (by rw [hg]; decide)]
    rfl
  | true =>
    have hg' := hg
    simp only [Rq.good, decide_eq_true_eq] at hg'
    by_cases k2 : rk = 2
    · subst k2
      refine (only_q ck pi px py si sl sh qk qa qb qc qd qe qf qg qx qy w hg).mono fun e w' h => ⟨?_, h.2⟩
      rw [h.1]
      unfold Rq.only
      rw [if_pos hg, if_pos rfl]
      rfl
    · obtain rfl : rk = 1 := by omega
      have hne : ¬ (1 : Int) = 2 := by decide
      have hc : ck = 1 ∨ ck = 2 ∨ ck = 3 ∨ ck = 4 := by omega
      rcases hc with rfl | rfl | rfl | rfl
      · refine (only_1 pi px py si sl sh qk qa qb qc qd qe qf qg qx qy w hg).mono fun e w' h => ⟨?_, h.2⟩
        rw [h.1]
        unfold Rq.only
        rw [if_pos hg, if_neg hne]
        rfl
      · refine (only_2 pi px py si sl sh qk qa qb qc qd qe qf qg qx qy w hg).mono fun e w' h => ⟨?_, h.2⟩
        rw [h.1]
        unfold Rq.only
        rw [if_pos hg, if_neg hne]
        rfl
      · refine (only_3 pi px py si sl sh qk qa qb qc qd qe qf qg qx qy w hg).mono fun e w' h => ⟨?_, h.2⟩
        rw [h.1]
        unfold Rq.only
        rw [if_pos hg, if_neg hne]
        rfl
      · refine (only_4 pi px py si sl sh qk qa qb qc qd qe qf qg qx qy w hg).mono fun e w' h => ⟨?_, h.2⟩
        rw [h.1]
        unfold Rq.only
        rw [if_pos hg, if_neg hne]
        rfl
end Go.Proofs.Ytencgokpbfkeiaa
