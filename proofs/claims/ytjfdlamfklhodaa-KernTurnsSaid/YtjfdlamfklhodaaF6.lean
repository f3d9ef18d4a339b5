/- Digits as a number of 128 bits. -/
import Derived.Test.YtjfdlamfklhodaaF3
set_option linter.unusedVariables false
namespace Go.Proofs.Ytjfdlamfklhodaa
open Go.ChangeShapes Go.WideShapes Go.ChangeAt Go.RowKit
set_option maxHeartbeats 4000000 in
theorem rwide (ok : Bool) (rh rl h4 d0 d1 d2 d3 d4 d5 d6 d7 d8 p2 p3 p4 r2 r3 r4 u1 u2 u3 v1 v2 v3 : Int) (H0 : Hid (IntKind.u64.wrap d3 = d3 ∧ IntKind.u64.wrap d7 = d7 ∧ True ∧ True)) (H1 : Hid (IntKind.u64.wrap (d3 * 65536) = u1 ∧ IntKind.u64.wrap (u1 + d2) = p2 ∧ IntKind.u64.wrap (d7 * 65536) = v1 ∧ IntKind.u64.wrap (v1 + d6) = r2)) (H2 : Hid (IntKind.u64.wrap (p2 * 65536) = u2 ∧ IntKind.u64.wrap (u2 + d1) = p3 ∧ IntKind.u64.wrap (r2 * 65536) = v2 ∧ IntKind.u64.wrap (v2 + d5) = r3)) (H3 : Hid (IntKind.u64.wrap (p3 * 65536) = u3 ∧ IntKind.u64.wrap (u3 + d0) = p4 ∧ IntKind.u64.wrap (r3 * 65536) = v3 ∧ IntKind.u64.wrap (v3 + d4) = r4)) (HW : Hid (IntKind.i64.wrap r4 = h4))
    (HC : (d8 = 0 ∧ d7 < 32768 ∧ ok = true ∧ rh = h4 ∧ rl = p4) ∨ (d8 = 0 ∧ ¬ d7 < 32768 ∧ ok = false ∧ rh = 0 ∧ rl = 0) ∨ (d8 = 65535 ∧ 32768 ≤ d7 ∧ ok = true ∧ rh = h4 ∧ rl = p4) ∨ (d8 = 65535 ∧ ¬ 32768 ≤ d7 ∧ ok = false ∧ rh = 0 ∧ rl = 0) ∨ ((d8 == 0) = false ∧ (d8 == 65535) = false ∧ ok = false ∧ rh = 0 ∧ rl = 0)) (w : World) :
    Calls Try.prog 28 #[.agg #[.int .u64 d0, .int .u64 d1, .int .u64 d2, .int .u64 d3, .int .u64 d4, .int .u64 d5, .int .u64 d6, .int .u64 d7, .int .u64 d8]] w fun e w' => e = .returned (.tuple #[.agg #[.int .i64 rh, .int .u64 rl], .bool ok]) ∧ Below w.heap.size w w' := by
  have HC' := Lib.hid HC
  clear HC
  go_enter Try.func28, Try.ntmps28
  go_wp2_with fail
  go_loopg [4, 5, 6] 4 (fun g lo hi i wr => Below w.heap.size w wr ∧ Blk wr (w.heap.size) 39 #[.int .u64 d0, .int .u64 d1, .int .u64 d2, .int .u64 d3, .int .u64 d4, .int .u64 d5, .int .u64 d6, .int .u64 d7, .int .u64 d8] ∧ Blk wr (w.heap.size + 1) 35 #[.int .i64 0, .int .u64 0] ∧ ((g = 4 ∧ lo = .int .u64 0 ∧ hi = .int .u64 0 ∧ i = .int .i64 3) ∨ (g = 3 ∧ lo = .int .u64 d3 ∧ hi = .int .u64 d7 ∧ i = .int .i64 2) ∨ (g = 2 ∧ lo = .int .u64 p2 ∧ hi = .int .u64 r2 ∧ i = .int .i64 1) ∨ (g = 1 ∧ lo = .int .u64 p3 ∧ hi = .int .u64 r3 ∧ i = .int .i64 0) ∨ (g = 0 ∧ lo = .int .u64 p4 ∧ hi = .int .u64 r4 ∧ i = .int .i64 (-1))))
  case atStart =>
    refine ⟨(by repeat (first | with_reducible exact Below.refl _ _ | with_reducible assumption | with_reducible refine Below.setCell ?_ (by first | omega | (simp <;> omega)) _ | with_reducible refine below_drewN ?_ _ | with_reducible refine Below.drew ?_ | with_reducible refine Below.alloc ?_ (by first | omega | (simp <;> omega)) _)), ?_, ?_, .inl ⟨rfl, rfl, rfl, rfl⟩⟩
    · have := (Blk.new w 39 #[.int .u64 d0, .int .u64 d1, .int .u64 d2, .int .u64 d3, .int .u64 d4, .int .u64 d5, .int .u64 d6, .int .u64 d7, .int .u64 d8]).alloc (.cells #[.int .i64 0, .int .u64 0] 35); simpa using this
    · have := Blk.new (w.alloc (.cells #[.int .u64 d0, .int .u64 d1, .int .u64 d2, .int .u64 d3, .int .u64 d4, .int .u64 d5, .int .u64 d6, .int .u64 d7, .int .u64 d8] 39)) 35 #[.int .i64 0, .int .u64 0]; simpa using this
  case round =>
    obtain ⟨kb, ha, hz, hr⟩ := hrel
    have zs := kb.size
    rcases hr with hr0 | hr1 | hr2 | hr3 | hr4
    · obtain ⟨rfl, rfl, rfl, rfl⟩ := hr0
      have q1 : wr.cell? ⟨w.heap.size, 3, none⟩ = some (.int .u64 d3) := by rw [ha.cell]; rfl
      have q2 : wr.cell? ⟨w.heap.size, 7, none⟩ = some (.int .u64 d7) := by rw [ha.cell]; rfl
      have zc := ha.lt
      obtain ⟨e1, e2, e3, e4⟩ := (H0).out
      go_wp2_with fail
      go_quiet (fail)
      go_wp2_with fail
      go_roundg 3
      case measure => omega
      case rel => exact ⟨(by repeat (first | with_reducible exact Below.refl _ _ | with_reducible assumption | with_reducible refine Below.setCell ?_ (by first | omega | (simp <;> omega)) _ | with_reducible refine below_drewN ?_ _ | with_reducible refine Below.drew ?_ | with_reducible refine Below.alloc ?_ (by first | omega | (simp <;> omega)) _)), ha.drewN nq, hz.drewN nq, .inr (.inl ⟨rfl, rfl, rfl, rfl⟩)⟩
    · obtain ⟨rfl, rfl, rfl, rfl⟩ := hr1
      have q1 : wr.cell? ⟨w.heap.size, 2, none⟩ = some (.int .u64 d2) := by rw [ha.cell]; rfl
      have q2 : wr.cell? ⟨w.heap.size, 6, none⟩ = some (.int .u64 d6) := by rw [ha.cell]; rfl
      have zc := ha.lt
      obtain ⟨e1, e2, e3, e4⟩ := (H1).out
      go_wp2_with fail
      go_quiet (fail)
      go_wp2_with fail
      go_roundg 2
      case measure => omega
      case rel => exact ⟨(by repeat (first | with_reducible exact Below.refl _ _ | with_reducible assumption | with_reducible refine Below.setCell ?_ (by first | omega | (simp <;> omega)) _ | with_reducible refine below_drewN ?_ _ | with_reducible refine Below.drew ?_ | with_reducible refine Below.alloc ?_ (by first | omega | (simp <;> omega)) _)), ha.drewN nq, hz.drewN nq, .inr (.inr (.inl ⟨rfl, rfl, rfl, rfl⟩))⟩
    · obtain ⟨rfl, rfl, rfl, rfl⟩ := hr2
      have q1 : wr.cell? ⟨w.heap.size, 1, none⟩ = some (.int .u64 d1) := by rw [ha.cell]; rfl
      have q2 : wr.cell? ⟨w.heap.size, 5, none⟩ = some (.int .u64 d5) := by rw [ha.cell]; rfl
      have zc := ha.lt
      obtain ⟨e1, e2, e3, e4⟩ := (H2).out
      go_wp2_with fail
      go_quiet (fail)
      go_wp2_with fail
      go_roundg 1
      case measure => omega
      case rel => exact ⟨(by repeat (first | with_reducible exact Below.refl _ _ | with_reducible assumption | with_reducible refine Below.setCell ?_ (by first | omega | (simp <;> omega)) _ | with_reducible refine below_drewN ?_ _ | with_reducible refine Below.drew ?_ | with_reducible refine Below.alloc ?_ (by first | omega | (simp <;> omega)) _)), ha.drewN nq, hz.drewN nq, .inr (.inr (.inr (.inl ⟨rfl, rfl, rfl, rfl⟩)))⟩
    · obtain ⟨rfl, rfl, rfl, rfl⟩ := hr3
      have q1 : wr.cell? ⟨w.heap.size, 0, none⟩ = some (.int .u64 d0) := by rw [ha.cell]; rfl
      have q2 : wr.cell? ⟨w.heap.size, 4, none⟩ = some (.int .u64 d4) := by rw [ha.cell]; rfl
      have zc := ha.lt
      obtain ⟨e1, e2, e3, e4⟩ := (H3).out
      go_wp2_with fail
      go_quiet (fail)
      go_wp2_with fail
      go_roundg 0
      case measure => omega
      case rel => exact ⟨(by repeat (first | with_reducible exact Below.refl _ _ | with_reducible assumption | with_reducible refine Below.setCell ?_ (by first | omega | (simp <;> omega)) _ | with_reducible refine below_drewN ?_ _ | with_reducible refine Below.drew ?_ | with_reducible refine Below.alloc ?_ (by first | omega | (simp <;> omega)) _)), ha.drewN nq, hz.drewN nq, .inr (.inr (.inr (.inr (⟨rfl, rfl, rfl, rfl⟩))))⟩
    · obtain ⟨rfl, rfl, rfl, rfl⟩ := hr4
      have q7 : wr.cell? ⟨w.heap.size, 7, none⟩ = some (.int .u64 d7) := by rw [ha.cell]; rfl
      have q8 : wr.cell? ⟨w.heap.size, 8, none⟩ = some (.int .u64 d8) := by rw [ha.cell]; rfl
      have c0 : wr.cell? ⟨w.heap.size + 1, 0, none⟩ = some (.int .i64 0) := by rw [hz.cell]; rfl
      have c1 : wr.cell? ⟨w.heap.size + 1, 1, none⟩ = some (.int .u64 0) := by rw [hz.cell]; rfl
      have f0 : wr.frozen? ⟨w.heap.size + 1, 0, none⟩ = false := hz.frozen 0
      have f1 : wr.frozen? ⟨w.heap.size + 1, 1, none⟩ = false := hz.frozen 1
      have x2 := hz.lt
      have x1 := ha.lt
      clear ha hz
      have hw4 := HW.out
      rcases HC'.out with ⟨rfl, g1, rfl, rfl, rfl⟩ | ⟨rfl, g1, rfl, rfl, rfl⟩ | ⟨rfl, g1, rfl, rfl, rfl⟩ | ⟨rfl, g1, rfl, rfl, rfl⟩ | ⟨g1, g2, rfl, rfl, rfl⟩
      · go_wp2_with fail
        exact bodyPost_ret (v := .tuple #[.agg #[.int .i64 rh, .int .u64 rl], .bool true]) (by simp [results, Try.results28, go_sem, x2, c0, c1]) rfl ⟨rfl, (by repeat (first | with_reducible exact Below.refl _ _ | with_reducible assumption | with_reducible refine Below.setCell ?_ (by first | omega | (simp <;> omega)) _ | with_reducible refine below_drewN ?_ _ | with_reducible refine Below.drew ?_ | with_reducible refine Below.alloc ?_ (by first | omega | (simp <;> omega)) _))⟩
      · go_wp2_with fail
        exact bodyPost_ret (v := .tuple #[.agg #[.int .i64 0, .int .u64 0], .bool false]) (by simp [results, Try.results28, go_sem, x2, c0, c1]) rfl ⟨rfl, (by repeat (first | with_reducible exact Below.refl _ _ | with_reducible assumption | with_reducible refine Below.setCell ?_ (by first | omega | (simp <;> omega)) _ | with_reducible refine below_drewN ?_ _ | with_reducible refine Below.drew ?_ | with_reducible refine Below.alloc ?_ (by first | omega | (simp <;> omega)) _))⟩
      · go_wp2_with fail
        exact bodyPost_ret (v := .tuple #[.agg #[.int .i64 rh, .int .u64 rl], .bool true]) (by simp [results, Try.results28, go_sem, x2, c0, c1]) rfl ⟨rfl, (by repeat (first | with_reducible exact Below.refl _ _ | with_reducible assumption | with_reducible refine Below.setCell ?_ (by first | omega | (simp <;> omega)) _ | with_reducible refine below_drewN ?_ _ | with_reducible refine Below.drew ?_ | with_reducible refine Below.alloc ?_ (by first | omega | (simp <;> omega)) _))⟩
      · go_wp2_with fail
        exact bodyPost_ret (v := .tuple #[.agg #[.int .i64 0, .int .u64 0], .bool false]) (by simp [results, Try.results28, go_sem, x2, c0, c1]) rfl ⟨rfl, (by repeat (first | with_reducible exact Below.refl _ _ | with_reducible assumption | with_reducible refine Below.setCell ?_ (by first | omega | (simp <;> omega)) _ | with_reducible refine below_drewN ?_ _ | with_reducible refine Below.drew ?_ | with_reducible refine Below.alloc ?_ (by first | omega | (simp <;> omega)) _))⟩
      · go_wp2_with fail
        exact bodyPost_ret (v := .tuple #[.agg #[.int .i64 0, .int .u64 0], .bool false]) (by simp [results, Try.results28, go_sem, x2, c0, c1]) rfl ⟨rfl, (by repeat (first | with_reducible exact Below.refl _ _ | with_reducible assumption | with_reducible refine Below.setCell ?_ (by first | omega | (simp <;> omega)) _ | with_reducible refine below_drewN ?_ _ | with_reducible refine Below.drew ?_ | with_reducible refine Below.alloc ?_ (by first | omega | (simp <;> omega)) _))⟩
end Go.Proofs.Ytjfdlamfklhodaa
