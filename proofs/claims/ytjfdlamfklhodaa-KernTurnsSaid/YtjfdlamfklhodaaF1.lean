/- Digits of a number of 128 bits. -/
import Derived.Test.YtjfdlamfklhodaaE2
import Derived.Outline
set_option linter.unusedVariables false
namespace Go.Proofs.Ytjfdlamfklhodaa
open Go.ChangeShapes Go.WideShapes Go.ChangeAt Go.RowKit
set_option maxHeartbeats 4000000 in
theorem rof (hi lo H s : Int) (l0 : 0 ≤ lo) (l1 : lo ≤ 18446744073709551615) (b0 : 0 ≤ H) (b1 : H ≤ 18446744073709551615) (hH : IntKind.u64.wrap hi = H) (hs : (0 ≤ hi ∧ s = 0) ∨ (hi < 0 ∧ s = 65535)) (w : World) : Calls Try.prog 38 #[.agg #[.int .i64 hi, .int .u64 lo]] w fun e w' => e = .returned (.agg #[.int .u64 (lo % 65536), .int .u64 ((lo / 65536) % 65536), .int .u64 (((lo / 65536) / 65536) % 65536), .int .u64 ((((lo / 65536) / 65536) / 65536) % 65536), .int .u64 (H % 65536), .int .u64 ((H / 65536) % 65536), .int .u64 (((H / 65536) / 65536) % 65536), .int .u64 ((((H / 65536) / 65536) / 65536) % 65536), .int .u64 s]) ∧ Below w.heap.size w w' := by
  go_enter Try.func38, Try.ntmps38
  go_wp2_with fail
  go_quiet (fail)
  go_wp2_with fail
  go_loopg [4, 5, 6] 4 (fun k lo' H' i wr => (k = 4 ∧ lo' = .int .u64 lo ∧ H' = .int .u64 H ∧ i = .int .i64 0 ∧ wr = (((w.alloc (.cells #[.int .i64 hi, .int .u64 lo] 35)).alloc (.cells #[.int .u64 0, .int .u64 0, .int .u64 0, .int .u64 0, .int .u64 0, .int .u64 0, .int .u64 0, .int .u64 0, .int .u64 0] 39)).alloc (.cells #[.int .u64 0, .int .u64 0, .int .u64 0, .int .u64 0, .int .u64 0, .int .u64 0, .int .u64 0, .int .u64 0, .int .u64 0] 39)).drewN nq) ∨ (k = 3 ∧ lo' = .int .u64 (lo / 65536) ∧ H' = .int .u64 (H / 65536) ∧ i = .int .i64 1 ∧ wr = (((((w.alloc (.cells #[.int .i64 hi, .int .u64 lo] 35)).alloc (.cells #[.int .u64 0, .int .u64 0, .int .u64 0, .int .u64 0, .int .u64 0, .int .u64 0, .int .u64 0, .int .u64 0, .int .u64 0] 39)).alloc (.cells #[.int .u64 0, .int .u64 0, .int .u64 0, .int .u64 0, .int .u64 0, .int .u64 0, .int .u64 0, .int .u64 0, .int .u64 0] 39)).drewN nq).setCell ⟨w.heap.size + 1 + 1, 0, none⟩ (.int .u64 (lo % 65536))).setCell ⟨w.heap.size + 1 + 1, 4, none⟩ (.int .u64 (H % 65536))) ∨ (k = 2 ∧ lo' = .int .u64 ((lo / 65536) / 65536) ∧ H' = .int .u64 ((H / 65536) / 65536) ∧ i = .int .i64 2 ∧ wr = (((((((w.alloc (.cells #[.int .i64 hi, .int .u64 lo] 35)).alloc (.cells #[.int .u64 0, .int .u64 0, .int .u64 0, .int .u64 0, .int .u64 0, .int .u64 0, .int .u64 0, .int .u64 0, .int .u64 0] 39)).alloc (.cells #[.int .u64 0, .int .u64 0, .int .u64 0, .int .u64 0, .int .u64 0, .int .u64 0, .int .u64 0, .int .u64 0, .int .u64 0] 39)).drewN nq).setCell ⟨w.heap.size + 1 + 1, 0, none⟩ (.int .u64 (lo % 65536))).setCell ⟨w.heap.size + 1 + 1, 4, none⟩ (.int .u64 (H % 65536))).setCell ⟨w.heap.size + 1 + 1, 1, none⟩ (.int .u64 ((lo / 65536) % 65536))).setCell ⟨w.heap.size + 1 + 1, 5, none⟩ (.int .u64 ((H / 65536) % 65536))) ∨ (k = 1 ∧ lo' = .int .u64 (((lo / 65536) / 65536) / 65536) ∧ H' = .int .u64 (((H / 65536) / 65536) / 65536) ∧ i = .int .i64 3 ∧ wr = (((((((((w.alloc (.cells #[.int .i64 hi, .int .u64 lo] 35)).alloc (.cells #[.int .u64 0, .int .u64 0, .int .u64 0, .int .u64 0, .int .u64 0, .int .u64 0, .int .u64 0, .int .u64 0, .int .u64 0] 39)).alloc (.cells #[.int .u64 0, .int .u64 0, .int .u64 0, .int .u64 0, .int .u64 0, .int .u64 0, .int .u64 0, .int .u64 0, .int .u64 0] 39)).drewN nq).setCell ⟨w.heap.size + 1 + 1, 0, none⟩ (.int .u64 (lo % 65536))).setCell ⟨w.heap.size + 1 + 1, 4, none⟩ (.int .u64 (H % 65536))).setCell ⟨w.heap.size + 1 + 1, 1, none⟩ (.int .u64 ((lo / 65536) % 65536))).setCell ⟨w.heap.size + 1 + 1, 5, none⟩ (.int .u64 ((H / 65536) % 65536))).setCell ⟨w.heap.size + 1 + 1, 2, none⟩ (.int .u64 (((lo / 65536) / 65536) % 65536))).setCell ⟨w.heap.size + 1 + 1, 6, none⟩ (.int .u64 (((H / 65536) / 65536) % 65536))) ∨ (k = 0 ∧ lo' = .int .u64 ((((lo / 65536) / 65536) / 65536) / 65536) ∧ H' = .int .u64 ((((H / 65536) / 65536) / 65536) / 65536) ∧ i = .int .i64 4 ∧ wr = (((((((((((w.alloc (.cells #[.int .i64 hi, .int .u64 lo] 35)).alloc (.cells #[.int .u64 0, .int .u64 0, .int .u64 0, .int .u64 0, .int .u64 0, .int .u64 0, .int .u64 0, .int .u64 0, .int .u64 0] 39)).alloc (.cells #[.int .u64 0, .int .u64 0, .int .u64 0, .int .u64 0, .int .u64 0, .int .u64 0, .int .u64 0, .int .u64 0, .int .u64 0] 39)).drewN nq).setCell ⟨w.heap.size + 1 + 1, 0, none⟩ (.int .u64 (lo % 65536))).setCell ⟨w.heap.size + 1 + 1, 4, none⟩ (.int .u64 (H % 65536))).setCell ⟨w.heap.size + 1 + 1, 1, none⟩ (.int .u64 ((lo / 65536) % 65536))).setCell ⟨w.heap.size + 1 + 1, 5, none⟩ (.int .u64 ((H / 65536) % 65536))).setCell ⟨w.heap.size + 1 + 1, 2, none⟩ (.int .u64 (((lo / 65536) / 65536) % 65536))).setCell ⟨w.heap.size + 1 + 1, 6, none⟩ (.int .u64 (((H / 65536) / 65536) % 65536))).setCell ⟨w.heap.size + 1 + 1, 3, none⟩ (.int .u64 ((((lo / 65536) / 65536) / 65536) % 65536))).setCell ⟨w.heap.size + 1 + 1, 7, none⟩ (.int .u64 ((((H / 65536) / 65536) / 65536) % 65536))))
  case atStart => exact .inl ⟨rfl, rfl, rfl, rfl, rfl⟩
  case round =>
    rcases hrel with hr0 | hr1 | hr2 | hr3 | hr4
    · obtain ⟨rfl, rfl, rfl, rfl, rfl⟩ := hr0
      have p1 : 0 ≤ lo := by omega
      have p2 : 0 ≤ H := by omega
      go_wp2_with fail
      go_roundg 3
      case measure => omega
      case rel => exact .inr (.inl ⟨rfl, rfl, rfl, rfl, rfl⟩)
    · obtain ⟨rfl, rfl, rfl, rfl, rfl⟩ := hr1
      have p1 : 0 ≤ (lo / 65536) := by omega
      have p2 : 0 ≤ (H / 65536) := by omega
      go_wp2_with fail
      go_roundg 2
      case measure => omega
      case rel => exact .inr (.inr (.inl ⟨rfl, rfl, rfl, rfl, rfl⟩))
    · obtain ⟨rfl, rfl, rfl, rfl, rfl⟩ := hr2
      have p1 : 0 ≤ ((lo / 65536) / 65536) := by omega
      have p2 : 0 ≤ ((H / 65536) / 65536) := by omega
      go_wp2_with fail
      go_roundg 1
      case measure => omega
      case rel => exact .inr (.inr (.inr (.inl ⟨rfl, rfl, rfl, rfl, rfl⟩)))
    · obtain ⟨rfl, rfl, rfl, rfl, rfl⟩ := hr3
      have p1 : 0 ≤ (((lo / 65536) / 65536) / 65536) := by omega
      have p2 : 0 ≤ (((H / 65536) / 65536) / 65536) := by omega
      go_wp2_with fail
      go_roundg 0
      case measure => omega
      case rel => exact .inr (.inr (.inr (.inr (⟨rfl, rfl, rfl, rfl, rfl⟩))))
    · obtain ⟨rfl, rfl, rfl, rfl, rfl⟩ := hr4
      rcases hs with ⟨s1, rfl⟩ | ⟨s1, rfl⟩
      · go_wp2_with fail
        exact bodyPost_ret (v := .agg #[.int .u64 (lo % 65536), .int .u64 ((lo / 65536) % 65536), .int .u64 (((lo / 65536) / 65536) % 65536), .int .u64 ((((lo / 65536) / 65536) / 65536) % 65536), .int .u64 (H % 65536), .int .u64 ((H / 65536) % 65536), .int .u64 (((H / 65536) / 65536) % 65536), .int .u64 ((((H / 65536) / 65536) / 65536) % 65536), .int .u64 0]) (by simp [results, Try.results38, go_sem]) rfl ⟨rfl, (by repeat (first | with_reducible exact Below.refl _ _ | with_reducible refine Below.setCell ?_ (by first | omega | (simp <;> omega)) _ | with_reducible refine below_drewN ?_ _ | with_reducible refine Below.drew ?_ | with_reducible refine Below.alloc ?_ (by first | omega | (simp <;> omega)) _))⟩
      · go_wp2_with fail
        exact bodyPost_ret (v := .agg #[.int .u64 (lo % 65536), .int .u64 ((lo / 65536) % 65536), .int .u64 (((lo / 65536) / 65536) % 65536), .int .u64 ((((lo / 65536) / 65536) / 65536) % 65536), .int .u64 (H % 65536), .int .u64 ((H / 65536) % 65536), .int .u64 (((H / 65536) / 65536) % 65536), .int .u64 ((((H / 65536) / 65536) / 65536) % 65536), .int .u64 65535]) (by simp [results, Try.results38, go_sem]) rfl ⟨rfl, (by repeat (first | with_reducible exact Below.refl _ _ | with_reducible refine Below.setCell ?_ (by first | omega | (simp <;> omega)) _ | with_reducible refine below_drewN ?_ _ | with_reducible refine Below.drew ?_ | with_reducible refine Below.alloc ?_ (by first | omega | (simp <;> omega)) _))⟩
end Go.Proofs.Ytjfdlamfklhodaa
