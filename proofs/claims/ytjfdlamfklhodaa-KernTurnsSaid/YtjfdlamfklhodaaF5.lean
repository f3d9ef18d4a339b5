/- The negative of digits. -/
import Derived.Test.YtjfdlamfklhodaaF4
set_option linter.unusedVariables false
namespace Go.Proofs.Ytjfdlamfklhodaa
open Go.ChangeShapes Go.WideShapes Go.ChangeAt Go.RowKit
set_option maxHeartbeats 4000000 in
theorem rneg (a0 a1 a2 a3 a4 a5 a6 a7 a8 s0 s1 s2 s3 s4 s5 s6 s7 s8 : Int) (H0 : Hid (0 ≤ a0 ∧ a0 ≤ 65535)) (H1 : Hid (0 ≤ a1 ∧ a1 ≤ 65535)) (H2 : Hid (0 ≤ a2 ∧ a2 ≤ 65535)) (H3 : Hid (0 ≤ a3 ∧ a3 ≤ 65535)) (H4 : Hid (0 ≤ a4 ∧ a4 ≤ 65535)) (H5 : Hid (0 ≤ a5 ∧ a5 ≤ 65535)) (H6 : Hid (0 ≤ a6 ∧ a6 ≤ 65535)) (H7 : Hid (0 ≤ a7 ∧ a7 ≤ 65535)) (H8 : Hid (0 ≤ a8 ∧ a8 ≤ 65535))
    (HS : Hid (∀ w : World, Calls Try.prog 37 #[.agg #[.int .u64 (65535 - a0), .int .u64 (65535 - a1), .int .u64 (65535 - a2), .int .u64 (65535 - a3), .int .u64 (65535 - a4), .int .u64 (65535 - a5), .int .u64 (65535 - a6), .int .u64 (65535 - a7), .int .u64 (65535 - a8)], .agg #[.int .u64 1, .int .u64 0, .int .u64 0, .int .u64 0, .int .u64 0, .int .u64 0, .int .u64 0, .int .u64 0, .int .u64 0]] w fun e w' => e = .returned (.agg #[.int .u64 s0, .int .u64 s1, .int .u64 s2, .int .u64 s3, .int .u64 s4, .int .u64 s5, .int .u64 s6, .int .u64 s7, .int .u64 s8]) ∧ Below w.heap.size w w')) (w : World) :
    Calls Try.prog 39 #[.agg #[.int .u64 a0, .int .u64 a1, .int .u64 a2, .int .u64 a3, .int .u64 a4, .int .u64 a5, .int .u64 a6, .int .u64 a7, .int .u64 a8]] w fun e w' => e = .returned (.agg #[.int .u64 s0, .int .u64 s1, .int .u64 s2, .int .u64 s3, .int .u64 s4, .int .u64 s5, .int .u64 s6, .int .u64 s7, .int .u64 s8]) ∧ Below w.heap.size w w' := by
  go_enter Try.func39, Try.ntmps39
  go_wp2_with fail
  go_loopg [5] 9 (fun g i wr => Below w.heap.size w wr ∧ Blk wr (w.heap.size) 39 #[.int .u64 a0, .int .u64 a1, .int .u64 a2, .int .u64 a3, .int .u64 a4, .int .u64 a5, .int .u64 a6, .int .u64 a7, .int .u64 a8] ∧ Blk wr (w.heap.size + 1) 39 #[.int .u64 0, .int .u64 0, .int .u64 0, .int .u64 0, .int .u64 0, .int .u64 0, .int .u64 0, .int .u64 0, .int .u64 0] ∧ Blk wr (w.heap.size + 1 + 1 + 1) 39 #[.int .u64 0, .int .u64 0, .int .u64 0, .int .u64 0, .int .u64 0, .int .u64 0, .int .u64 0, .int .u64 0, .int .u64 0] ∧ ((g = 9 ∧ i = .int .i64 0 ∧ Blk wr (w.heap.size + 1 + 1) 39 #[.int .u64 0, .int .u64 0, .int .u64 0, .int .u64 0, .int .u64 0, .int .u64 0, .int .u64 0, .int .u64 0, .int .u64 0]) ∨ (g = 8 ∧ i = .int .i64 1 ∧ Blk wr (w.heap.size + 1 + 1) 39 #[.int .u64 (65535 - a0), .int .u64 0, .int .u64 0, .int .u64 0, .int .u64 0, .int .u64 0, .int .u64 0, .int .u64 0, .int .u64 0]) ∨ (g = 7 ∧ i = .int .i64 2 ∧ Blk wr (w.heap.size + 1 + 1) 39 #[.int .u64 (65535 - a0), .int .u64 (65535 - a1), .int .u64 0, .int .u64 0, .int .u64 0, .int .u64 0, .int .u64 0, .int .u64 0, .int .u64 0]) ∨ (g = 6 ∧ i = .int .i64 3 ∧ Blk wr (w.heap.size + 1 + 1) 39 #[.int .u64 (65535 - a0), .int .u64 (65535 - a1), .int .u64 (65535 - a2), .int .u64 0, .int .u64 0, .int .u64 0, .int .u64 0, .int .u64 0, .int .u64 0]) ∨ (g = 5 ∧ i = .int .i64 4 ∧ Blk wr (w.heap.size + 1 + 1) 39 #[.int .u64 (65535 - a0), .int .u64 (65535 - a1), .int .u64 (65535 - a2), .int .u64 (65535 - a3), .int .u64 0, .int .u64 0, .int .u64 0, .int .u64 0, .int .u64 0]) ∨ (g = 4 ∧ i = .int .i64 5 ∧ Blk wr (w.heap.size + 1 + 1) 39 #[.int .u64 (65535 - a0), .int .u64 (65535 - a1), .int .u64 (65535 - a2), .int .u64 (65535 - a3), .int .u64 (65535 - a4), .int .u64 0, .int .u64 0, .int .u64 0, .int .u64 0]) ∨ (g = 3 ∧ i = .int .i64 6 ∧ Blk wr (w.heap.size + 1 + 1) 39 #[.int .u64 (65535 - a0), .int .u64 (65535 - a1), .int .u64 (65535 - a2), .int .u64 (65535 - a3), .int .u64 (65535 - a4), .int .u64 (65535 - a5), .int .u64 0, .int .u64 0, .int .u64 0]) ∨ (g = 2 ∧ i = .int .i64 7 ∧ Blk wr (w.heap.size + 1 + 1) 39 #[.int .u64 (65535 - a0), .int .u64 (65535 - a1), .int .u64 (65535 - a2), .int .u64 (65535 - a3), .int .u64 (65535 - a4), .int .u64 (65535 - a5), .int .u64 (65535 - a6), .int .u64 0, .int .u64 0]) ∨ (g = 1 ∧ i = .int .i64 8 ∧ Blk wr (w.heap.size + 1 + 1) 39 #[.int .u64 (65535 - a0), .int .u64 (65535 - a1), .int .u64 (65535 - a2), .int .u64 (65535 - a3), .int .u64 (65535 - a4), .int .u64 (65535 - a5), .int .u64 (65535 - a6), .int .u64 (65535 - a7), .int .u64 0]) ∨ (g = 0 ∧ i = .int .i64 9 ∧ Blk wr (w.heap.size + 1 + 1) 39 #[.int .u64 (65535 - a0), .int .u64 (65535 - a1), .int .u64 (65535 - a2), .int .u64 (65535 - a3), .int .u64 (65535 - a4), .int .u64 (65535 - a5), .int .u64 (65535 - a6), .int .u64 (65535 - a7), .int .u64 (65535 - a8)])))
  case atStart =>
    refine ⟨(by repeat (first | with_reducible exact Below.refl _ _ | with_reducible assumption | with_reducible refine Below.setCell ?_ (by first | omega | (simp <;> omega)) _ | with_reducible refine below_drewN ?_ _ | with_reducible refine Below.drew ?_ | with_reducible refine Below.alloc ?_ (by first | omega | (simp <;> omega)) _)), ?_, ?_, ?_, .inl ⟨rfl, rfl, ?_⟩⟩
    · have := (((Blk.new w 39 #[.int .u64 a0, .int .u64 a1, .int .u64 a2, .int .u64 a3, .int .u64 a4, .int .u64 a5, .int .u64 a6, .int .u64 a7, .int .u64 a8]).alloc (.cells #[.int .u64 0, .int .u64 0, .int .u64 0, .int .u64 0, .int .u64 0, .int .u64 0, .int .u64 0, .int .u64 0, .int .u64 0] 39)).alloc (.cells #[.int .u64 0, .int .u64 0, .int .u64 0, .int .u64 0, .int .u64 0, .int .u64 0, .int .u64 0, .int .u64 0, .int .u64 0] 39)).alloc (.cells #[.int .u64 0, .int .u64 0, .int .u64 0, .int .u64 0, .int .u64 0, .int .u64 0, .int .u64 0, .int .u64 0, .int .u64 0] 39); simpa using this
    · have := ((Blk.new (w.alloc (.cells #[.int .u64 a0, .int .u64 a1, .int .u64 a2, .int .u64 a3, .int .u64 a4, .int .u64 a5, .int .u64 a6, .int .u64 a7, .int .u64 a8] 39)) 39 #[.int .u64 0, .int .u64 0, .int .u64 0, .int .u64 0, .int .u64 0, .int .u64 0, .int .u64 0, .int .u64 0, .int .u64 0]).alloc (.cells #[.int .u64 0, .int .u64 0, .int .u64 0, .int .u64 0, .int .u64 0, .int .u64 0, .int .u64 0, .int .u64 0, .int .u64 0] 39)).alloc (.cells #[.int .u64 0, .int .u64 0, .int .u64 0, .int .u64 0, .int .u64 0, .int .u64 0, .int .u64 0, .int .u64 0, .int .u64 0] 39); simpa using this
    · have := Blk.new (((w.alloc (.cells #[.int .u64 a0, .int .u64 a1, .int .u64 a2, .int .u64 a3, .int .u64 a4, .int .u64 a5, .int .u64 a6, .int .u64 a7, .int .u64 a8] 39)).alloc (.cells #[.int .u64 0, .int .u64 0, .int .u64 0, .int .u64 0, .int .u64 0, .int .u64 0, .int .u64 0, .int .u64 0, .int .u64 0] 39)).alloc (.cells #[.int .u64 0, .int .u64 0, .int .u64 0, .int .u64 0, .int .u64 0, .int .u64 0, .int .u64 0, .int .u64 0, .int .u64 0] 39)) 39 #[.int .u64 0, .int .u64 0, .int .u64 0, .int .u64 0, .int .u64 0, .int .u64 0, .int .u64 0, .int .u64 0, .int .u64 0]; simpa using this
    · have := (Blk.new ((w.alloc (.cells #[.int .u64 a0, .int .u64 a1, .int .u64 a2, .int .u64 a3, .int .u64 a4, .int .u64 a5, .int .u64 a6, .int .u64 a7, .int .u64 a8] 39)).alloc (.cells #[.int .u64 0, .int .u64 0, .int .u64 0, .int .u64 0, .int .u64 0, .int .u64 0, .int .u64 0, .int .u64 0, .int .u64 0] 39)) 39 #[.int .u64 0, .int .u64 0, .int .u64 0, .int .u64 0, .int .u64 0, .int .u64 0, .int .u64 0, .int .u64 0, .int .u64 0]).alloc (.cells #[.int .u64 0, .int .u64 0, .int .u64 0, .int .u64 0, .int .u64 0, .int .u64 0, .int .u64 0, .int .u64 0, .int .u64 0] 39); simpa using this
  case round =>
    obtain ⟨kb, ha, hz, ho, hr⟩ := hrel
    have zs := kb.size
    rcases hr with hr0 | hr1 | hr2 | hr3 | hr4 | hr5 | hr6 | hr7 | hr8 | hr9
    · obtain ⟨rfl, rfl, hc⟩ := hr0
      obtain ⟨e1, e2⟩ := (H0).out
      have qa : wr.cell? ⟨w.heap.size, 0, none⟩ = some (.int .u64 a0) := by rw [ha.cell]; rfl
      have qc : wr.cell? ⟨w.heap.size + 1 + 1, 0, none⟩ = some (.int .u64 0) := by rw [hc.cell]; rfl
      have fc : wr.frozen? ⟨w.heap.size + 1 + 1, 0, none⟩ = false := hc.frozen 0
      have zc := hc.lt
      go_wp2_with fail
      go_roundg 8
      case measure => omega
      case rel => exact ⟨(by repeat (first | with_reducible exact Below.refl _ _ | with_reducible assumption | with_reducible refine Below.setCell ?_ (by first | omega | (simp <;> omega)) _ | with_reducible refine below_drewN ?_ _ | with_reducible refine Below.drew ?_ | with_reducible refine Below.alloc ?_ (by first | omega | (simp <;> omega)) _)), ha.far (by dsimp only; omega) _, hz.far (by dsimp only; omega) _, ho.far (by dsimp only; omega) _, .inr (.inl ⟨rfl, rfl, hc.set_ 0 _⟩)⟩
    · obtain ⟨rfl, rfl, hc⟩ := hr1
      obtain ⟨e1, e2⟩ := (H1).out
      have qa : wr.cell? ⟨w.heap.size, 1, none⟩ = some (.int .u64 a1) := by rw [ha.cell]; rfl
      have qc : wr.cell? ⟨w.heap.size + 1 + 1, 1, none⟩ = some (.int .u64 0) := by rw [hc.cell]; rfl
      have fc : wr.frozen? ⟨w.heap.size + 1 + 1, 1, none⟩ = false := hc.frozen 1
      have zc := hc.lt
      go_wp2_with fail
      go_roundg 7
      case measure => omega
      case rel => exact ⟨(by repeat (first | with_reducible exact Below.refl _ _ | with_reducible assumption | with_reducible refine Below.setCell ?_ (by first | omega | (simp <;> omega)) _ | with_reducible refine below_drewN ?_ _ | with_reducible refine Below.drew ?_ | with_reducible refine Below.alloc ?_ (by first | omega | (simp <;> omega)) _)), ha.far (by dsimp only; omega) _, hz.far (by dsimp only; omega) _, ho.far (by dsimp only; omega) _, .inr (.inr (.inl ⟨rfl, rfl, hc.set_ 1 _⟩))⟩
    · obtain ⟨rfl, rfl, hc⟩ := hr2
      obtain ⟨e1, e2⟩ := (H2).out
      have qa : wr.cell? ⟨w.heap.size, 2, none⟩ = some (.int .u64 a2) := by rw [ha.cell]; rfl
      have qc : wr.cell? ⟨w.heap.size + 1 + 1, 2, none⟩ = some (.int .u64 0) := by rw [hc.cell]; rfl
      have fc : wr.frozen? ⟨w.heap.size + 1 + 1, 2, none⟩ = false := hc.frozen 2
      have zc := hc.lt
      go_wp2_with fail
      go_roundg 6
      case measure => omega
      case rel => exact ⟨(by repeat (first | with_reducible exact Below.refl _ _ | with_reducible assumption | with_reducible refine Below.setCell ?_ (by first | omega | (simp <;> omega)) _ | with_reducible refine below_drewN ?_ _ | with_reducible refine Below.drew ?_ | with_reducible refine Below.alloc ?_ (by first | omega | (simp <;> omega)) _)), ha.far (by dsimp only; omega) _, hz.far (by dsimp only; omega) _, ho.far (by dsimp only; omega) _, .inr (.inr (.inr (.inl ⟨rfl, rfl, hc.set_ 2 _⟩)))⟩
    · obtain ⟨rfl, rfl, hc⟩ := hr3
      obtain ⟨e1, e2⟩ := (H3).out
      have qa : wr.cell? ⟨w.heap.size, 3, none⟩ = some (.int .u64 a3) := by rw [ha.cell]; rfl
      have qc : wr.cell? ⟨w.heap.size + 1 + 1, 3, none⟩ = some (.int .u64 0) := by rw [hc.cell]; rfl
      have fc : wr.frozen? ⟨w.heap.size + 1 + 1, 3, none⟩ = false := hc.frozen 3
      have zc := hc.lt
      go_wp2_with fail
      go_roundg 5
      case measure => omega
      case rel => exact ⟨(by repeat (first | with_reducible exact Below.refl _ _ | with_reducible assumption | with_reducible refine Below.setCell ?_ (by first | omega | (simp <;> omega)) _ | with_reducible refine below_drewN ?_ _ | with_reducible refine Below.drew ?_ | with_reducible refine Below.alloc ?_ (by first | omega | (simp <;> omega)) _)), ha.far (by dsimp only; omega) _, hz.far (by dsimp only; omega) _, ho.far (by dsimp only; omega) _, .inr (.inr (.inr (.inr (.inl ⟨rfl, rfl, hc.set_ 3 _⟩))))⟩
    · obtain ⟨rfl, rfl, hc⟩ := hr4
      obtain ⟨e1, e2⟩ := (H4).out
      have qa : wr.cell? ⟨w.heap.size, 4, none⟩ = some (.int .u64 a4) := by rw [ha.cell]; rfl
      have qc : wr.cell? ⟨w.heap.size + 1 + 1, 4, none⟩ = some (.int .u64 0) := by rw [hc.cell]; rfl
      have fc : wr.frozen? ⟨w.heap.size + 1 + 1, 4, none⟩ = false := hc.frozen 4
      have zc := hc.lt
      go_wp2_with fail
      go_roundg 4
      case measure => omega
      case rel => exact ⟨(by repeat (first | with_reducible exact Below.refl _ _ | with_reducible assumption | with_reducible refine Below.setCell ?_ (by first | omega | (simp <;> omega)) _ | with_reducible refine below_drewN ?_ _ | with_reducible refine Below.drew ?_ | with_reducible refine Below.alloc ?_ (by first | omega | (simp <;> omega)) _)), ha.far (by dsimp only; omega) _, hz.far (by dsimp only; omega) _, ho.far (by dsimp only; omega) _, .inr (.inr (.inr (.inr (.inr (.inl ⟨rfl, rfl, hc.set_ 4 _⟩)))))⟩
    · obtain ⟨rfl, rfl, hc⟩ := hr5
      obtain ⟨e1, e2⟩ := (H5).out
      have qa : wr.cell? ⟨w.heap.size, 5, none⟩ = some (.int .u64 a5) := by rw [ha.cell]; rfl
      have qc : wr.cell? ⟨w.heap.size + 1 + 1, 5, none⟩ = some (.int .u64 0) := by rw [hc.cell]; rfl
      have fc : wr.frozen? ⟨w.heap.size + 1 + 1, 5, none⟩ = false := hc.frozen 5
      have zc := hc.lt
      go_wp2_with fail
      go_roundg 3
      case measure => omega
      case rel => exact ⟨(by repeat (first | with_reducible exact Below.refl _ _ | with_reducible assumption | with_reducible refine Below.setCell ?_ (by first | omega | (simp <;> omega)) _ | with_reducible refine below_drewN ?_ _ | with_reducible refine Below.drew ?_ | with_reducible refine Below.alloc ?_ (by first | omega | (simp <;> omega)) _)), ha.far (by dsimp only; omega) _, hz.far (by dsimp only; omega) _, ho.far (by dsimp only; omega) _, .inr (.inr (.inr (.inr (.inr (.inr (.inl ⟨rfl, rfl, hc.set_ 5 _⟩))))))⟩
    · obtain ⟨rfl, rfl, hc⟩ := hr6
      obtain ⟨e1, e2⟩ := (H6).out
      have qa : wr.cell? ⟨w.heap.size, 6, none⟩ = some (.int .u64 a6) := by rw [ha.cell]; rfl
      have qc : wr.cell? ⟨w.heap.size + 1 + 1, 6, none⟩ = some (.int .u64 0) := by rw [hc.cell]; rfl
      have fc : wr.frozen? ⟨w.heap.size + 1 + 1, 6, none⟩ = false := hc.frozen 6
      have zc := hc.lt
      go_wp2_with fail
      go_roundg 2
      case measure => omega
      case rel => exact ⟨(by repeat (first | with_reducible exact Below.refl _ _ | with_reducible assumption | with_reducible refine Below.setCell ?_ (by first | omega | (simp <;> omega)) _ | with_reducible refine below_drewN ?_ _ | with_reducible refine Below.drew ?_ | with_reducible refine Below.alloc ?_ (by first | omega | (simp <;> omega)) _)), ha.far (by dsimp only; omega) _, hz.far (by dsimp only; omega) _, ho.far (by dsimp only; omega) _, .inr (.inr (.inr (.inr (.inr (.inr (.inr (.inl ⟨rfl, rfl, hc.set_ 6 _⟩)))))))⟩
    · obtain ⟨rfl, rfl, hc⟩ := hr7
      obtain ⟨e1, e2⟩ := (H7).out
      have qa : wr.cell? ⟨w.heap.size, 7, none⟩ = some (.int .u64 a7) := by rw [ha.cell]; rfl
      have qc : wr.cell? ⟨w.heap.size + 1 + 1, 7, none⟩ = some (.int .u64 0) := by rw [hc.cell]; rfl
      have fc : wr.frozen? ⟨w.heap.size + 1 + 1, 7, none⟩ = false := hc.frozen 7
      have zc := hc.lt
      go_wp2_with fail
      go_roundg 1
      case measure => omega
      case rel => exact ⟨(by repeat (first | with_reducible exact Below.refl _ _ | with_reducible assumption | with_reducible refine Below.setCell ?_ (by first | omega | (simp <;> omega)) _ | with_reducible refine below_drewN ?_ _ | with_reducible refine Below.drew ?_ | with_reducible refine Below.alloc ?_ (by first | omega | (simp <;> omega)) _)), ha.far (by dsimp only; omega) _, hz.far (by dsimp only; omega) _, ho.far (by dsimp only; omega) _, .inr (.inr (.inr (.inr (.inr (.inr (.inr (.inr (.inl ⟨rfl, rfl, hc.set_ 7 _⟩))))))))⟩
    · obtain ⟨rfl, rfl, hc⟩ := hr8
      obtain ⟨e1, e2⟩ := (H8).out
      have qa : wr.cell? ⟨w.heap.size, 8, none⟩ = some (.int .u64 a8) := by rw [ha.cell]; rfl
      have qc : wr.cell? ⟨w.heap.size + 1 + 1, 8, none⟩ = some (.int .u64 0) := by rw [hc.cell]; rfl
      have fc : wr.frozen? ⟨w.heap.size + 1 + 1, 8, none⟩ = false := hc.frozen 8
      have zc := hc.lt
      go_wp2_with fail
      go_roundg 0
      case measure => omega
      case rel => exact ⟨(by repeat (first | with_reducible exact Below.refl _ _ | with_reducible assumption | with_reducible refine Below.setCell ?_ (by first | omega | (simp <;> omega)) _ | with_reducible refine below_drewN ?_ _ | with_reducible refine Below.drew ?_ | with_reducible refine Below.alloc ?_ (by first | omega | (simp <;> omega)) _)), ha.far (by dsimp only; omega) _, hz.far (by dsimp only; omega) _, ho.far (by dsimp only; omega) _, .inr (.inr (.inr (.inr (.inr (.inr (.inr (.inr (.inr (⟨rfl, rfl, hc.set_ 8 _⟩)))))))))⟩
    · obtain ⟨rfl, rfl, hc⟩ := hr9
      have n0 : wr.cell? ⟨w.heap.size + 1 + 1, 0, none⟩ = some (.int .u64 (65535 - a0)) := by rw [hc.cell]; rfl
      have n1 : wr.cell? ⟨w.heap.size + 1 + 1, 1, none⟩ = some (.int .u64 (65535 - a1)) := by rw [hc.cell]; rfl
      have n2 : wr.cell? ⟨w.heap.size + 1 + 1, 2, none⟩ = some (.int .u64 (65535 - a2)) := by rw [hc.cell]; rfl
      have n3 : wr.cell? ⟨w.heap.size + 1 + 1, 3, none⟩ = some (.int .u64 (65535 - a3)) := by rw [hc.cell]; rfl
      have n4 : wr.cell? ⟨w.heap.size + 1 + 1, 4, none⟩ = some (.int .u64 (65535 - a4)) := by rw [hc.cell]; rfl
      have n5 : wr.cell? ⟨w.heap.size + 1 + 1, 5, none⟩ = some (.int .u64 (65535 - a5)) := by rw [hc.cell]; rfl
      have n6 : wr.cell? ⟨w.heap.size + 1 + 1, 6, none⟩ = some (.int .u64 (65535 - a6)) := by rw [hc.cell]; rfl
      have n7 : wr.cell? ⟨w.heap.size + 1 + 1, 7, none⟩ = some (.int .u64 (65535 - a7)) := by rw [hc.cell]; rfl
      have n8 : wr.cell? ⟨w.heap.size + 1 + 1, 8, none⟩ = some (.int .u64 (65535 - a8)) := by rw [hc.cell]; rfl
      have o0 : wr.cell? ⟨w.heap.size + 1 + 1 + 1, 0, none⟩ = some (.int .u64 0) := by rw [ho.cell]; rfl
      have o1 : wr.cell? ⟨w.heap.size + 1 + 1 + 1, 1, none⟩ = some (.int .u64 0) := by rw [ho.cell]; rfl
      have o2 : wr.cell? ⟨w.heap.size + 1 + 1 + 1, 2, none⟩ = some (.int .u64 0) := by rw [ho.cell]; rfl
      have o3 : wr.cell? ⟨w.heap.size + 1 + 1 + 1, 3, none⟩ = some (.int .u64 0) := by rw [ho.cell]; rfl
      have o4 : wr.cell? ⟨w.heap.size + 1 + 1 + 1, 4, none⟩ = some (.int .u64 0) := by rw [ho.cell]; rfl
      have o5 : wr.cell? ⟨w.heap.size + 1 + 1 + 1, 5, none⟩ = some (.int .u64 0) := by rw [ho.cell]; rfl
      have o6 : wr.cell? ⟨w.heap.size + 1 + 1 + 1, 6, none⟩ = some (.int .u64 0) := by rw [ho.cell]; rfl
      have o7 : wr.cell? ⟨w.heap.size + 1 + 1 + 1, 7, none⟩ = some (.int .u64 0) := by rw [ho.cell]; rfl
      have o8 : wr.cell? ⟨w.heap.size + 1 + 1 + 1, 8, none⟩ = some (.int .u64 0) := by rw [ho.cell]; rfl
      have fo : wr.frozen? ⟨w.heap.size + 1 + 1 + 1, 0, none⟩ = false := ho.frozen 0
      have x2 := hc.lt
      have x3 := ho.lt
      have x1 := hz.lt
      go_wp2_with fail
      refine (HS.out _).mono ?_
      rintro e w1 ⟨rfl, hb⟩
      have hz' := (hz.far (p := ⟨w.heap.size + 1 + 1 + 1, 0, none⟩) (by dsimp only; omega) (.int .u64 1)).below hb (by simpa using x1)
      have hk : Below w.heap.size w w1 := below_below (by simp <;> omega) hb (by repeat (first | with_reducible exact Below.refl _ _ | with_reducible assumption | with_reducible refine Below.setCell ?_ (by first | omega | (simp <;> omega)) _ | with_reducible refine below_drewN ?_ _ | with_reducible refine Below.drew ?_ | with_reducible refine Below.alloc ?_ (by first | omega | (simp <;> omega)) _))
      have c0 : w1.cell? ⟨w.heap.size + 1, 0, none⟩ = some (.int .u64 0) := by rw [hz'.cell]; rfl
      have c1 : w1.cell? ⟨w.heap.size + 1, 1, none⟩ = some (.int .u64 0) := by rw [hz'.cell]; rfl
      have c2 : w1.cell? ⟨w.heap.size + 1, 2, none⟩ = some (.int .u64 0) := by rw [hz'.cell]; rfl
      have c3 : w1.cell? ⟨w.heap.size + 1, 3, none⟩ = some (.int .u64 0) := by rw [hz'.cell]; rfl
      have c4 : w1.cell? ⟨w.heap.size + 1, 4, none⟩ = some (.int .u64 0) := by rw [hz'.cell]; rfl
      have c5 : w1.cell? ⟨w.heap.size + 1, 5, none⟩ = some (.int .u64 0) := by rw [hz'.cell]; rfl
      have c6 : w1.cell? ⟨w.heap.size + 1, 6, none⟩ = some (.int .u64 0) := by rw [hz'.cell]; rfl
      have c7 : w1.cell? ⟨w.heap.size + 1, 7, none⟩ = some (.int .u64 0) := by rw [hz'.cell]; rfl
      have c8 : w1.cell? ⟨w.heap.size + 1, 8, none⟩ = some (.int .u64 0) := by rw [hz'.cell]; rfl
      have f0 : w1.frozen? ⟨w.heap.size + 1, 0, none⟩ = false := hz'.frozen 0
      have f1 : w1.frozen? ⟨w.heap.size + 1, 1, none⟩ = false := hz'.frozen 1
      have f2 : w1.frozen? ⟨w.heap.size + 1, 2, none⟩ = false := hz'.frozen 2
      have f3 : w1.frozen? ⟨w.heap.size + 1, 3, none⟩ = false := hz'.frozen 3
      have f4 : w1.frozen? ⟨w.heap.size + 1, 4, none⟩ = false := hz'.frozen 4
      have f5 : w1.frozen? ⟨w.heap.size + 1, 5, none⟩ = false := hz'.frozen 5
      have f6 : w1.frozen? ⟨w.heap.size + 1, 6, none⟩ = false := hz'.frozen 6
      have f7 : w1.frozen? ⟨w.heap.size + 1, 7, none⟩ = false := hz'.frozen 7
      have f8 : w1.frozen? ⟨w.heap.size + 1, 8, none⟩ = false := hz'.frozen 8
      have y1 := hz'.lt
      clear hb hz hz' ho hc ha n0 n1 n2 n3 n4 n5 n6 n7 n8 o0 o1 o2 o3 o4 o5 o6 o7 o8
      go_wp2_with fail
      exact bodyPost_ret (v := .agg #[.int .u64 s0, .int .u64 s1, .int .u64 s2, .int .u64 s3, .int .u64 s4, .int .u64 s5, .int .u64 s6, .int .u64 s7, .int .u64 s8]) (by simp [results, Try.results39, go_sem, y1, c0, c1, c2, c3, c4, c5, c6, c7, c8]) rfl ⟨rfl, (by repeat (first | with_reducible exact Below.refl _ _ | with_reducible assumption | with_reducible refine Below.setCell ?_ (by first | omega | (simp <;> omega)) _ | with_reducible refine below_drewN ?_ _ | with_reducible refine Below.drew ?_ | with_reducible refine Below.alloc ?_ (by first | omega | (simp <;> omega)) _))⟩
end Go.Proofs.Ytjfdlamfklhodaa
