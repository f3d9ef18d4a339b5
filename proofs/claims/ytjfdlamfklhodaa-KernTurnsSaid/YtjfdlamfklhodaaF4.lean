/- The sum of digits. -/
import Derived.Test.YtjfdlamfklhodaaF3
set_option linter.unusedVariables false
namespace Go.Proofs.Ytjfdlamfklhodaa
open Go.ChangeShapes Go.WideShapes Go.ChangeAt Go.RowKit
set_option maxHeartbeats 4000000 in
theorem radd (a0 a1 a2 a3 a4 a5 a6 a7 a8 b0 b1 b2 b3 b4 b5 b6 b7 b8 s0 s1 s2 s3 s4 s5 s6 s7 s8 t1 t2 t3 t4 t5 t6 t7 t8 k1 k2 k3 k4 k5 k6 k7 k8 k9 : Int) (H0 : Hid (IntKind.u64.wrap (a0 + b0) = a0 + b0 ∧ 0 ≤ a0 + b0 ∧ a0 + b0 ≤ 18446744073709551615 ∧ (a0 + b0) % 65536 = s0 ∧ (a0 + b0) / 65536 = k1 ∧ True)) (H1 : Hid (IntKind.u64.wrap (a1 + b1) = a1 + b1 ∧ IntKind.u64.wrap (a1 + b1 + k1) = t1 ∧ 0 ≤ t1 ∧ t1 ≤ 18446744073709551615 ∧ t1 % 65536 = s1 ∧ t1 / 65536 = k2)) (H2 : Hid (IntKind.u64.wrap (a2 + b2) = a2 + b2 ∧ IntKind.u64.wrap (a2 + b2 + k2) = t2 ∧ 0 ≤ t2 ∧ t2 ≤ 18446744073709551615 ∧ t2 % 65536 = s2 ∧ t2 / 65536 = k3)) (H3 : Hid (IntKind.u64.wrap (a3 + b3) = a3 + b3 ∧ IntKind.u64.wrap (a3 + b3 + k3) = t3 ∧ 0 ≤ t3 ∧ t3 ≤ 18446744073709551615 ∧ t3 % 65536 = s3 ∧ t3 / 65536 = k4)) (H4 : Hid (IntKind.u64.wrap (a4 + b4) = a4 + b4 ∧ IntKind.u64.wrap (a4 + b4 + k4) = t4 ∧ 0 ≤ t4 ∧ t4 ≤ 18446744073709551615 ∧ t4 % 65536 = s4 ∧ t4 / 65536 = k5)) (H5 : Hid (IntKind.u64.wrap (a5 + b5) = a5 + b5 ∧ IntKind.u64.wrap (a5 + b5 + k5) = t5 ∧ 0 ≤ t5 ∧ t5 ≤ 18446744073709551615 ∧ t5 % 65536 = s5 ∧ t5 / 65536 = k6)) (H6 : Hid (IntKind.u64.wrap (a6 + b6) = a6 + b6 ∧ IntKind.u64.wrap (a6 + b6 + k6) = t6 ∧ 0 ≤ t6 ∧ t6 ≤ 18446744073709551615 ∧ t6 % 65536 = s6 ∧ t6 / 65536 = k7)) (H7 : Hid (IntKind.u64.wrap (a7 + b7) = a7 + b7 ∧ IntKind.u64.wrap (a7 + b7 + k7) = t7 ∧ 0 ≤ t7 ∧ t7 ≤ 18446744073709551615 ∧ t7 % 65536 = s7 ∧ t7 / 65536 = k8)) (H8 : Hid (IntKind.u64.wrap (a8 + b8) = a8 + b8 ∧ IntKind.u64.wrap (a8 + b8 + k8) = t8 ∧ 0 ≤ t8 ∧ t8 ≤ 18446744073709551615 ∧ t8 % 65536 = s8 ∧ t8 / 65536 = k9)) (w : World) : Calls Try.prog 37 #[.agg #[.int .u64 a0, .int .u64 a1, .int .u64 a2, .int .u64 a3, .int .u64 a4, .int .u64 a5, .int .u64 a6, .int .u64 a7, .int .u64 a8], .agg #[.int .u64 b0, .int .u64 b1, .int .u64 b2, .int .u64 b3, .int .u64 b4, .int .u64 b5, .int .u64 b6, .int .u64 b7, .int .u64 b8]] w fun e w' => e = .returned (.agg #[.int .u64 s0, .int .u64 s1, .int .u64 s2, .int .u64 s3, .int .u64 s4, .int .u64 s5, .int .u64 s6, .int .u64 s7, .int .u64 s8]) ∧ Below w.heap.size w w' := by
  go_enter Try.func37, Try.ntmps37
  go_wp2_with fail
  go_loopg [6, 7] 9 (fun g carry i wr => Below w.heap.size w wr ∧ Blk wr (w.heap.size) 39 #[.int .u64 a0, .int .u64 a1, .int .u64 a2, .int .u64 a3, .int .u64 a4, .int .u64 a5, .int .u64 a6, .int .u64 a7, .int .u64 a8] ∧ Blk wr (w.heap.size + 1) 39 #[.int .u64 b0, .int .u64 b1, .int .u64 b2, .int .u64 b3, .int .u64 b4, .int .u64 b5, .int .u64 b6, .int .u64 b7, .int .u64 b8] ∧ Blk wr (w.heap.size + 1 + 1) 39 #[.int .u64 0, .int .u64 0, .int .u64 0, .int .u64 0, .int .u64 0, .int .u64 0, .int .u64 0, .int .u64 0, .int .u64 0] ∧ ((g = 9 ∧ carry = .int .u64 0 ∧ i = .int .i64 0 ∧ Blk wr (w.heap.size + 1 + 1 + 1) 39 #[.int .u64 0, .int .u64 0, .int .u64 0, .int .u64 0, .int .u64 0, .int .u64 0, .int .u64 0, .int .u64 0, .int .u64 0]) ∨ (g = 8 ∧ carry = .int .u64 k1 ∧ i = .int .i64 1 ∧ Blk wr (w.heap.size + 1 + 1 + 1) 39 #[.int .u64 s0, .int .u64 0, .int .u64 0, .int .u64 0, .int .u64 0, .int .u64 0, .int .u64 0, .int .u64 0, .int .u64 0]) ∨ (g = 7 ∧ carry = .int .u64 k2 ∧ i = .int .i64 2 ∧ Blk wr (w.heap.size + 1 + 1 + 1) 39 #[.int .u64 s0, .int .u64 s1, .int .u64 0, .int .u64 0, .int .u64 0, .int .u64 0, .int .u64 0, .int .u64 0, .int .u64 0]) ∨ (g = 6 ∧ carry = .int .u64 k3 ∧ i = .int .i64 3 ∧ Blk wr (w.heap.size + 1 + 1 + 1) 39 #[.int .u64 s0, .int .u64 s1, .int .u64 s2, .int .u64 0, .int .u64 0, .int .u64 0, .int .u64 0, .int .u64 0, .int .u64 0]) ∨ (g = 5 ∧ carry = .int .u64 k4 ∧ i = .int .i64 4 ∧ Blk wr (w.heap.size + 1 + 1 + 1) 39 #[.int .u64 s0, .int .u64 s1, .int .u64 s2, .int .u64 s3, .int .u64 0, .int .u64 0, .int .u64 0, .int .u64 0, .int .u64 0]) ∨ (g = 4 ∧ carry = .int .u64 k5 ∧ i = .int .i64 5 ∧ Blk wr (w.heap.size + 1 + 1 + 1) 39 #[.int .u64 s0, .int .u64 s1, .int .u64 s2, .int .u64 s3, .int .u64 s4, .int .u64 0, .int .u64 0, .int .u64 0, .int .u64 0]) ∨ (g = 3 ∧ carry = .int .u64 k6 ∧ i = .int .i64 6 ∧ Blk wr (w.heap.size + 1 + 1 + 1) 39 #[.int .u64 s0, .int .u64 s1, .int .u64 s2, .int .u64 s3, .int .u64 s4, .int .u64 s5, .int .u64 0, .int .u64 0, .int .u64 0]) ∨ (g = 2 ∧ carry = .int .u64 k7 ∧ i = .int .i64 7 ∧ Blk wr (w.heap.size + 1 + 1 + 1) 39 #[.int .u64 s0, .int .u64 s1, .int .u64 s2, .int .u64 s3, .int .u64 s4, .int .u64 s5, .int .u64 s6, .int .u64 0, .int .u64 0]) ∨ (g = 1 ∧ carry = .int .u64 k8 ∧ i = .int .i64 8 ∧ Blk wr (w.heap.size + 1 + 1 + 1) 39 #[.int .u64 s0, .int .u64 s1, .int .u64 s2, .int .u64 s3, .int .u64 s4, .int .u64 s5, .int .u64 s6, .int .u64 s7, .int .u64 0]) ∨ (g = 0 ∧ carry = .int .u64 k9 ∧ i = .int .i64 9 ∧ Blk wr (w.heap.size + 1 + 1 + 1) 39 #[.int .u64 s0, .int .u64 s1, .int .u64 s2, .int .u64 s3, .int .u64 s4, .int .u64 s5, .int .u64 s6, .int .u64 s7, .int .u64 s8])))
  case atStart =>
    refine ⟨(by repeat (first | with_reducible exact Below.refl _ _ | with_reducible assumption | with_reducible refine Below.setCell ?_ (by first | omega | (simp <;> omega)) _ | with_reducible refine below_drewN ?_ _ | with_reducible refine Below.drew ?_ | with_reducible refine Below.alloc ?_ (by first | omega | (simp <;> omega)) _)), ?_, ?_, ?_, .inl ⟨rfl, rfl, rfl, ?_⟩⟩
    · have := (((Blk.new w 39 #[.int .u64 a0, .int .u64 a1, .int .u64 a2, .int .u64 a3, .int .u64 a4, .int .u64 a5, .int .u64 a6, .int .u64 a7, .int .u64 a8]).alloc (.cells #[.int .u64 b0, .int .u64 b1, .int .u64 b2, .int .u64 b3, .int .u64 b4, .int .u64 b5, .int .u64 b6, .int .u64 b7, .int .u64 b8] 39)).alloc (.cells #[.int .u64 0, .int .u64 0, .int .u64 0, .int .u64 0, .int .u64 0, .int .u64 0, .int .u64 0, .int .u64 0, .int .u64 0] 39)).alloc (.cells #[.int .u64 0, .int .u64 0, .int .u64 0, .int .u64 0, .int .u64 0, .int .u64 0, .int .u64 0, .int .u64 0, .int .u64 0] 39); simpa using this
    · have := ((Blk.new (w.alloc (.cells #[.int .u64 a0, .int .u64 a1, .int .u64 a2, .int .u64 a3, .int .u64 a4, .int .u64 a5, .int .u64 a6, .int .u64 a7, .int .u64 a8] 39)) 39 #[.int .u64 b0, .int .u64 b1, .int .u64 b2, .int .u64 b3, .int .u64 b4, .int .u64 b5, .int .u64 b6, .int .u64 b7, .int .u64 b8]).alloc (.cells #[.int .u64 0, .int .u64 0, .int .u64 0, .int .u64 0, .int .u64 0, .int .u64 0, .int .u64 0, .int .u64 0, .int .u64 0] 39)).alloc (.cells #[.int .u64 0, .int .u64 0, .int .u64 0, .int .u64 0, .int .u64 0, .int .u64 0, .int .u64 0, .int .u64 0, .int .u64 0] 39); simpa using this
    · have := (Blk.new ((w.alloc (.cells #[.int .u64 a0, .int .u64 a1, .int .u64 a2, .int .u64 a3, .int .u64 a4, .int .u64 a5, .int .u64 a6, .int .u64 a7, .int .u64 a8] 39)).alloc (.cells #[.int .u64 b0, .int .u64 b1, .int .u64 b2, .int .u64 b3, .int .u64 b4, .int .u64 b5, .int .u64 b6, .int .u64 b7, .int .u64 b8] 39)) 39 #[.int .u64 0, .int .u64 0, .int .u64 0, .int .u64 0, .int .u64 0, .int .u64 0, .int .u64 0, .int .u64 0, .int .u64 0]).alloc (.cells #[.int .u64 0, .int .u64 0, .int .u64 0, .int .u64 0, .int .u64 0, .int .u64 0, .int .u64 0, .int .u64 0, .int .u64 0] 39); simpa using this
    · have := Blk.new (((w.alloc (.cells #[.int .u64 a0, .int .u64 a1, .int .u64 a2, .int .u64 a3, .int .u64 a4, .int .u64 a5, .int .u64 a6, .int .u64 a7, .int .u64 a8] 39)).alloc (.cells #[.int .u64 b0, .int .u64 b1, .int .u64 b2, .int .u64 b3, .int .u64 b4, .int .u64 b5, .int .u64 b6, .int .u64 b7, .int .u64 b8] 39)).alloc (.cells #[.int .u64 0, .int .u64 0, .int .u64 0, .int .u64 0, .int .u64 0, .int .u64 0, .int .u64 0, .int .u64 0, .int .u64 0] 39)) 39 #[.int .u64 0, .int .u64 0, .int .u64 0, .int .u64 0, .int .u64 0, .int .u64 0, .int .u64 0, .int .u64 0, .int .u64 0]; simpa using this
  case round =>
    obtain ⟨kb, ha, hb, hz, hr⟩ := hrel
    have zs := kb.size
    rcases hr with hr0 | hr1 | hr2 | hr3 | hr4 | hr5 | hr6 | hr7 | hr8 | hr9
    · obtain ⟨rfl, rfl, rfl, hc⟩ := hr0
      have qa : wr.cell? ⟨w.heap.size, 0, none⟩ = some (.int .u64 a0) := by rw [ha.cell]; rfl
      have qb : wr.cell? ⟨w.heap.size + 1, 0, none⟩ = some (.int .u64 b0) := by rw [hb.cell]; rfl
      have qc : wr.cell? ⟨w.heap.size + 1 + 1 + 1, 0, none⟩ = some (.int .u64 0) := by rw [hc.cell]; rfl
      have fc : wr.frozen? ⟨w.heap.size + 1 + 1 + 1, 0, none⟩ = false := hc.frozen 0
      have zc := hc.lt
      obtain ⟨e1, e2, e3, e4, e5, e6⟩ := (H0).out
      go_wp2_with fail
      go_quiet (fail)
      go_wp2_with fail
      go_roundg 8
      case measure => omega
      case rel =>
        rw [e5]
        exact ⟨(by repeat (first | with_reducible exact Below.refl _ _ | with_reducible assumption | with_reducible refine Below.setCell ?_ (by first | omega | (simp <;> omega)) _ | with_reducible refine below_drewN ?_ _ | with_reducible refine Below.drew ?_ | with_reducible refine Below.alloc ?_ (by first | omega | (simp <;> omega)) _)), (ha.drewN nq).far (by dsimp only; omega) _, (hb.drewN nq).far (by dsimp only; omega) _, (hz.drewN nq).far (by dsimp only; omega) _, .inr (.inl ⟨rfl, rfl, rfl, (hc.drewN nq).set_ 0 _⟩)⟩
    · obtain ⟨rfl, rfl, rfl, hc⟩ := hr1
      have qa : wr.cell? ⟨w.heap.size, 1, none⟩ = some (.int .u64 a1) := by rw [ha.cell]; rfl
      have qb : wr.cell? ⟨w.heap.size + 1, 1, none⟩ = some (.int .u64 b1) := by rw [hb.cell]; rfl
      have qc : wr.cell? ⟨w.heap.size + 1 + 1 + 1, 1, none⟩ = some (.int .u64 0) := by rw [hc.cell]; rfl
      have fc : wr.frozen? ⟨w.heap.size + 1 + 1 + 1, 1, none⟩ = false := hc.frozen 1
      have zc := hc.lt
      obtain ⟨e1, e2, e3, e4, e5, e6⟩ := (H1).out
      go_wp2_with fail
      go_quiet (fail)
      go_wp2_with fail
      go_roundg 7
      case measure => omega
      case rel =>
        rw [e6]
        exact ⟨(by repeat (first | with_reducible exact Below.refl _ _ | with_reducible assumption | with_reducible refine Below.setCell ?_ (by first | omega | (simp <;> omega)) _ | with_reducible refine below_drewN ?_ _ | with_reducible refine Below.drew ?_ | with_reducible refine Below.alloc ?_ (by first | omega | (simp <;> omega)) _)), (ha.drewN nq).far (by dsimp only; omega) _, (hb.drewN nq).far (by dsimp only; omega) _, (hz.drewN nq).far (by dsimp only; omega) _, .inr (.inr (.inl ⟨rfl, rfl, rfl, (hc.drewN nq).set_ 1 _⟩))⟩
    · obtain ⟨rfl, rfl, rfl, hc⟩ := hr2
      have qa : wr.cell? ⟨w.heap.size, 2, none⟩ = some (.int .u64 a2) := by rw [ha.cell]; rfl
      have qb : wr.cell? ⟨w.heap.size + 1, 2, none⟩ = some (.int .u64 b2) := by rw [hb.cell]; rfl
      have qc : wr.cell? ⟨w.heap.size + 1 + 1 + 1, 2, none⟩ = some (.int .u64 0) := by rw [hc.cell]; rfl
      have fc : wr.frozen? ⟨w.heap.size + 1 + 1 + 1, 2, none⟩ = false := hc.frozen 2
      have zc := hc.lt
      obtain ⟨e1, e2, e3, e4, e5, e6⟩ := (H2).out
      go_wp2_with fail
      go_quiet (fail)
      go_wp2_with fail
      go_roundg 6
      case measure => omega
      case rel =>
        rw [e6]
        exact ⟨(by repeat (first | with_reducible exact Below.refl _ _ | with_reducible assumption | with_reducible refine Below.setCell ?_ (by first | omega | (simp <;> omega)) _ | with_reducible refine below_drewN ?_ _ | with_reducible refine Below.drew ?_ | with_reducible refine Below.alloc ?_ (by first | omega | (simp <;> omega)) _)), (ha.drewN nq).far (by dsimp only; omega) _, (hb.drewN nq).far (by dsimp only; omega) _, (hz.drewN nq).far (by dsimp only; omega) _, .inr (.inr (.inr (.inl ⟨rfl, rfl, rfl, (hc.drewN nq).set_ 2 _⟩)))⟩
    · obtain ⟨rfl, rfl, rfl, hc⟩ := hr3
      have qa : wr.cell? ⟨w.heap.size, 3, none⟩ = some (.int .u64 a3) := by rw [ha.cell]; rfl
      have qb : wr.cell? ⟨w.heap.size + 1, 3, none⟩ = some (.int .u64 b3) := by rw [hb.cell]; rfl
      have qc : wr.cell? ⟨w.heap.size + 1 + 1 + 1, 3, none⟩ = some (.int .u64 0) := by rw [hc.cell]; rfl
      have fc : wr.frozen? ⟨w.heap.size + 1 + 1 + 1, 3, none⟩ = false := hc.frozen 3
      have zc := hc.lt
      obtain ⟨e1, e2, e3, e4, e5, e6⟩ := (H3).out
      go_wp2_with fail
      go_quiet (fail)
      go_wp2_with fail
      go_roundg 5
      case measure => omega
      case rel =>
        rw [e6]
        exact ⟨(by repeat (first | with_reducible exact Below.refl _ _ | with_reducible assumption | with_reducible refine Below.setCell ?_ (by first | omega | (simp <;> omega)) _ | with_reducible refine below_drewN ?_ _ | with_reducible refine Below.drew ?_ | with_reducible refine Below.alloc ?_ (by first | omega | (simp <;> omega)) _)), (ha.drewN nq).far (by dsimp only; omega) _, (hb.drewN nq).far (by dsimp only; omega) _, (hz.drewN nq).far (by dsimp only; omega) _, .inr (.inr (.inr (.inr (.inl ⟨rfl, rfl, rfl, (hc.drewN nq).set_ 3 _⟩))))⟩
    · obtain ⟨rfl, rfl, rfl, hc⟩ := hr4
      have qa : wr.cell? ⟨w.heap.size, 4, none⟩ = some (.int .u64 a4) := by rw [ha.cell]; rfl
      have qb : wr.cell? ⟨w.heap.size + 1, 4, none⟩ = some (.int .u64 b4) := by rw [hb.cell]; rfl
      have qc : wr.cell? ⟨w.heap.size + 1 + 1 + 1, 4, none⟩ = some (.int .u64 0) := by rw [hc.cell]; rfl
      have fc : wr.frozen? ⟨w.heap.size + 1 + 1 + 1, 4, none⟩ = false := hc.frozen 4
      have zc := hc.lt
      obtain ⟨e1, e2, e3, e4, e5, e6⟩ := (H4).out
      go_wp2_with fail
      go_quiet (fail)
      go_wp2_with fail
      go_roundg 4
      case measure => omega
      case rel =>
        rw [e6]
        exact ⟨(by repeat (first | with_reducible exact Below.refl _ _ | with_reducible assumption | with_reducible refine Below.setCell ?_ (by first | omega | (simp <;> omega)) _ | with_reducible refine below_drewN ?_ _ | with_reducible refine Below.drew ?_ | with_reducible refine Below.alloc ?_ (by first | omega | (simp <;> omega)) _)), (ha.drewN nq).far (by dsimp only; omega) _, (hb.drewN nq).far (by dsimp only; omega) _, (hz.drewN nq).far (by dsimp only; omega) _, .inr (.inr (.inr (.inr (.inr (.inl ⟨rfl, rfl, rfl, (hc.drewN nq).set_ 4 _⟩)))))⟩
    · obtain ⟨rfl, rfl, rfl, hc⟩ := hr5
      have qa : wr.cell? ⟨w.heap.size, 5, none⟩ = some (.int .u64 a5) := by rw [ha.cell]; rfl
      have qb : wr.cell? ⟨w.heap.size + 1, 5, none⟩ = some (.int .u64 b5) := by rw [hb.cell]; rfl
      have qc : wr.cell? ⟨w.heap.size + 1 + 1 + 1, 5, none⟩ = some (.int .u64 0) := by rw [hc.cell]; rfl
      have fc : wr.frozen? ⟨w.heap.size + 1 + 1 + 1, 5, none⟩ = false := hc.frozen 5
      have zc := hc.lt
      obtain ⟨e1, e2, e3, e4, e5, e6⟩ := (H5).out
      go_wp2_with fail
      go_quiet (fail)
      go_wp2_with fail
      go_roundg 3
      case measure => omega
      case rel =>
        rw [e6]
        exact ⟨(by repeat (first | with_reducible exact Below.refl _ _ | with_reducible assumption | with_reducible refine Below.setCell ?_ (by first | omega | (simp <;> omega)) _ | with_reducible refine below_drewN ?_ _ | with_reducible refine Below.drew ?_ | with_reducible refine Below.alloc ?_ (by first | omega | (simp <;> omega)) _)), (ha.drewN nq).far (by dsimp only; omega) _, (hb.drewN nq).far (by dsimp only; omega) _, (hz.drewN nq).far (by dsimp only; omega) _, .inr (.inr (.inr (.inr (.inr (.inr (.inl ⟨rfl, rfl, rfl, (hc.drewN nq).set_ 5 _⟩))))))⟩
    · obtain ⟨rfl, rfl, rfl, hc⟩ := hr6
      have qa : wr.cell? ⟨w.heap.size, 6, none⟩ = some (.int .u64 a6) := by rw [ha.cell]; rfl
      have qb : wr.cell? ⟨w.heap.size + 1, 6, none⟩ = some (.int .u64 b6) := by rw [hb.cell]; rfl
      have qc : wr.cell? ⟨w.heap.size + 1 + 1 + 1, 6, none⟩ = some (.int .u64 0) := by rw [hc.cell]; rfl
      have fc : wr.frozen? ⟨w.heap.size + 1 + 1 + 1, 6, none⟩ = false := hc.frozen 6
      have zc := hc.lt
      obtain ⟨e1, e2, e3, e4, e5, e6⟩ := (H6).out
      go_wp2_with fail
      go_quiet (fail)
      go_wp2_with fail
      go_roundg 2
      case measure => omega
      case rel =>
        rw [e6]
        exact ⟨(by repeat (first | with_reducible exact Below.refl _ _ | with_reducible assumption | with_reducible refine Below.setCell ?_ (by first | omega | (simp <;> omega)) _ | with_reducible refine below_drewN ?_ _ | with_reducible refine Below.drew ?_ | with_reducible refine Below.alloc ?_ (by first | omega | (simp <;> omega)) _)), (ha.drewN nq).far (by dsimp only; omega) _, (hb.drewN nq).far (by dsimp only; omega) _, (hz.drewN nq).far (by dsimp only; omega) _, .inr (.inr (.inr (.inr (.inr (.inr (.inr (.inl ⟨rfl, rfl, rfl, (hc.drewN nq).set_ 6 _⟩)))))))⟩
    · obtain ⟨rfl, rfl, rfl, hc⟩ := hr7
      have qa : wr.cell? ⟨w.heap.size, 7, none⟩ = some (.int .u64 a7) := by rw [ha.cell]; rfl
      have qb : wr.cell? ⟨w.heap.size + 1, 7, none⟩ = some (.int .u64 b7) := by rw [hb.cell]; rfl
      have qc : wr.cell? ⟨w.heap.size + 1 + 1 + 1, 7, none⟩ = some (.int .u64 0) := by rw [hc.cell]; rfl
      have fc : wr.frozen? ⟨w.heap.size + 1 + 1 + 1, 7, none⟩ = false := hc.frozen 7
      have zc := hc.lt
      obtain ⟨e1, e2, e3, e4, e5, e6⟩ := (H7).out
      go_wp2_with fail
      go_quiet (fail)
      go_wp2_with fail
      go_roundg 1
      case measure => omega
      case rel =>
        rw [e6]
        exact ⟨(by repeat (first | with_reducible exact Below.refl _ _ | with_reducible assumption | with_reducible refine Below.setCell ?_ (by first | omega | (simp <;> omega)) _ | with_reducible refine below_drewN ?_ _ | with_reducible refine Below.drew ?_ | with_reducible refine Below.alloc ?_ (by first | omega | (simp <;> omega)) _)), (ha.drewN nq).far (by dsimp only; omega) _, (hb.drewN nq).far (by dsimp only; omega) _, (hz.drewN nq).far (by dsimp only; omega) _, .inr (.inr (.inr (.inr (.inr (.inr (.inr (.inr (.inl ⟨rfl, rfl, rfl, (hc.drewN nq).set_ 7 _⟩))))))))⟩
    · obtain ⟨rfl, rfl, rfl, hc⟩ := hr8
      have qa : wr.cell? ⟨w.heap.size, 8, none⟩ = some (.int .u64 a8) := by rw [ha.cell]; rfl
      have qb : wr.cell? ⟨w.heap.size + 1, 8, none⟩ = some (.int .u64 b8) := by rw [hb.cell]; rfl
      have qc : wr.cell? ⟨w.heap.size + 1 + 1 + 1, 8, none⟩ = some (.int .u64 0) := by rw [hc.cell]; rfl
      have fc : wr.frozen? ⟨w.heap.size + 1 + 1 + 1, 8, none⟩ = false := hc.frozen 8
      have zc := hc.lt
      obtain ⟨e1, e2, e3, e4, e5, e6⟩ := (H8).out
      go_wp2_with fail
      go_quiet (fail)
      go_wp2_with fail
      go_roundg 0
      case measure => omega
      case rel =>
        rw [e6]
        exact ⟨(by repeat (first | with_reducible exact Below.refl _ _ | with_reducible assumption | with_reducible refine Below.setCell ?_ (by first | omega | (simp <;> omega)) _ | with_reducible refine below_drewN ?_ _ | with_reducible refine Below.drew ?_ | with_reducible refine Below.alloc ?_ (by first | omega | (simp <;> omega)) _)), (ha.drewN nq).far (by dsimp only; omega) _, (hb.drewN nq).far (by dsimp only; omega) _, (hz.drewN nq).far (by dsimp only; omega) _, .inr (.inr (.inr (.inr (.inr (.inr (.inr (.inr (.inr (⟨rfl, rfl, rfl, (hc.drewN nq).set_ 8 _⟩)))))))))⟩
    · obtain ⟨rfl, rfl, rfl, hc⟩ := hr9
      have c0 : wr.cell? ⟨w.heap.size + 1 + 1 + 1, 0, none⟩ = some (.int .u64 s0) := by rw [hc.cell]; rfl
      have c1 : wr.cell? ⟨w.heap.size + 1 + 1 + 1, 1, none⟩ = some (.int .u64 s1) := by rw [hc.cell]; rfl
      have c2 : wr.cell? ⟨w.heap.size + 1 + 1 + 1, 2, none⟩ = some (.int .u64 s2) := by rw [hc.cell]; rfl
      have c3 : wr.cell? ⟨w.heap.size + 1 + 1 + 1, 3, none⟩ = some (.int .u64 s3) := by rw [hc.cell]; rfl
      have c4 : wr.cell? ⟨w.heap.size + 1 + 1 + 1, 4, none⟩ = some (.int .u64 s4) := by rw [hc.cell]; rfl
      have c5 : wr.cell? ⟨w.heap.size + 1 + 1 + 1, 5, none⟩ = some (.int .u64 s5) := by rw [hc.cell]; rfl
      have c6 : wr.cell? ⟨w.heap.size + 1 + 1 + 1, 6, none⟩ = some (.int .u64 s6) := by rw [hc.cell]; rfl
      have c7 : wr.cell? ⟨w.heap.size + 1 + 1 + 1, 7, none⟩ = some (.int .u64 s7) := by rw [hc.cell]; rfl
      have c8 : wr.cell? ⟨w.heap.size + 1 + 1 + 1, 8, none⟩ = some (.int .u64 s8) := by rw [hc.cell]; rfl
      have z0 : wr.cell? ⟨w.heap.size + 1 + 1, 0, none⟩ = some (.int .u64 0) := by rw [hz.cell]; rfl
      have z1 : wr.cell? ⟨w.heap.size + 1 + 1, 1, none⟩ = some (.int .u64 0) := by rw [hz.cell]; rfl
      have z2 : wr.cell? ⟨w.heap.size + 1 + 1, 2, none⟩ = some (.int .u64 0) := by rw [hz.cell]; rfl
      have z3 : wr.cell? ⟨w.heap.size + 1 + 1, 3, none⟩ = some (.int .u64 0) := by rw [hz.cell]; rfl
      have z4 : wr.cell? ⟨w.heap.size + 1 + 1, 4, none⟩ = some (.int .u64 0) := by rw [hz.cell]; rfl
      have z5 : wr.cell? ⟨w.heap.size + 1 + 1, 5, none⟩ = some (.int .u64 0) := by rw [hz.cell]; rfl
      have z6 : wr.cell? ⟨w.heap.size + 1 + 1, 6, none⟩ = some (.int .u64 0) := by rw [hz.cell]; rfl
      have z7 : wr.cell? ⟨w.heap.size + 1 + 1, 7, none⟩ = some (.int .u64 0) := by rw [hz.cell]; rfl
      have z8 : wr.cell? ⟨w.heap.size + 1 + 1, 8, none⟩ = some (.int .u64 0) := by rw [hz.cell]; rfl
      have f0 : wr.frozen? ⟨w.heap.size + 1 + 1, 0, none⟩ = false := hz.frozen 0
      have f1 : wr.frozen? ⟨w.heap.size + 1 + 1, 1, none⟩ = false := hz.frozen 1
      have f2 : wr.frozen? ⟨w.heap.size + 1 + 1, 2, none⟩ = false := hz.frozen 2
      have f3 : wr.frozen? ⟨w.heap.size + 1 + 1, 3, none⟩ = false := hz.frozen 3
      have f4 : wr.frozen? ⟨w.heap.size + 1 + 1, 4, none⟩ = false := hz.frozen 4
      have f5 : wr.frozen? ⟨w.heap.size + 1 + 1, 5, none⟩ = false := hz.frozen 5
      have f6 : wr.frozen? ⟨w.heap.size + 1 + 1, 6, none⟩ = false := hz.frozen 6
      have f7 : wr.frozen? ⟨w.heap.size + 1 + 1, 7, none⟩ = false := hz.frozen 7
      have f8 : wr.frozen? ⟨w.heap.size + 1 + 1, 8, none⟩ = false := hz.frozen 8
      have x3 := hc.lt
      have x2 := hz.lt
      clear ha hb hz hc
      go_wp2_with fail
      exact bodyPost_ret (v := .agg #[.int .u64 s0, .int .u64 s1, .int .u64 s2, .int .u64 s3, .int .u64 s4, .int .u64 s5, .int .u64 s6, .int .u64 s7, .int .u64 s8]) (by simp [results, Try.results37, go_sem, x2, x3, z0, z1, z2, z3, z4, z5, z6, z7, z8]) rfl ⟨rfl, (by repeat (first | with_reducible exact Below.refl _ _ | with_reducible assumption | with_reducible refine Below.setCell ?_ (by first | omega | (simp <;> omega)) _ | with_reducible refine below_drewN ?_ _ | with_reducible refine Below.drew ?_ | with_reducible refine Below.alloc ?_ (by first | omega | (simp <;> omega)) _))⟩
end Go.Proofs.Ytjfdlamfklhodaa
