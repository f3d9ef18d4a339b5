/- The product of digits (ref 02.Mul): digits of the product of both values, or of it less some 2^144s. -/
import Derived.Test.YtjfdlamfklhodaaF12
import Derived.Test.YtjfdlamfklhodaaF3
set_option linter.unusedVariables false
namespace Go.Proofs.Ytjfdlamfklhodaa
open Go.ChangeShapes Go.WideShapes Go.ChangeAt Go.RowKit
def Pr (A B : List Int) (w : World) (e : Ending) (w' : World) : Prop := ∃ D, okD D ∧ (∃ q, dv D = dv A * dv B + 22300745198530623141535718272648361505980416 * q) ∧ e = .returned (.agg (uv D)) ∧ Below w.heap.size w w'
theorem nine {D : List Int} (h : okD D) : ∃ d0 d1 d2 d3 d4 d5 d6 d7 d8, D = [d0, d1, d2, d3, d4, d5, d6, d7, d8] := by
  match D, h.1 with
  | [d0, d1, d2, d3, d4, d5, d6, d7, d8], _ => exact ⟨_, _, _, _, _, _, _, _, _, rfl⟩
theorem take9 {D : List Int} (h : okD D) : D.take 9 = D := List.take_of_length_le (by rw [h.1]; exact Nat.le_refl _)
theorem n_bd {x y z c : Int} (x0 : 0 ≤ x) (x1 : x ≤ 65535) (y0 : 0 ≤ y) (y1 : y ≤ 65535) (z0 : 0 ≤ z) (z1 : z ≤ 65535) (c0 : 0 ≤ c) (c1 : c ≤ 65535) :
    IntKind.u64.wrap (y * z) = y * z ∧ IntKind.u64.wrap (x + y * z) = x + y * z ∧ IntKind.u64.wrap (x + y * z + c) = x + y * z + c ∧ 0 ≤ x + y * z + c ∧ x + y * z + c ≤ 4294967295 := by
  have h1 : 0 ≤ y * z := Int.mul_nonneg y0 z0
  have h2 : y * z ≤ 4294836225 := Int.le_trans (Int.mul_le_mul y1 z1 z0 (by decide)) (by decide)
  generalize y * z = p at *
  refine ⟨?_, ?_, ?_, by omega, by omega⟩ <;> (rw [wrapu]; omega)
theorem n_bds {x y z c : Int} (x0 : 0 ≤ x) (x1 : x ≤ 65535) (y0 : 0 ≤ y) (y1 : y ≤ 65535) (z0 : 0 ≤ z) (z1 : z ≤ 65535) (c0 : 0 ≤ c) (c1 : c ≤ 65535) :
    ∃ M2 M1 N : Int, IntKind.u64.wrap (y * z) = M2 ∧ IntKind.u64.wrap (x + M2) = M1 ∧ IntKind.u64.wrap (M1 + c) = N ∧ 0 ≤ N ∧ N ≤ 4294967295 ∧ N = x + y * z + c := by
  obtain ⟨t1, t2, t3, t4, t5⟩ := n_bd x0 x1 y0 y1 z0 z1 c0 c1
  exact ⟨_, _, _, t1, t2, t3, t4, t5, rfl⟩
theorem div_bd {n : Int} (h0 : 0 ≤ n) (h1 : n ≤ 4294967295) : 0 ≤ n / 65536 ∧ n / 65536 ≤ 65535 ∧ 0 ≤ n % 65536 ∧ n % 65536 ≤ 65535 := by omega
set_option maxHeartbeats 4000000 in
theorem rmul (A B Z : List Int) (a0 a1 a2 a3 a4 a5 a6 a7 a8 b0 b1 b2 b3 b4 b5 b6 b7 b8 : Int) (eA : Hid (A = [a0, a1, a2, a3, a4, a5, a6, a7, a8])) (eB : Hid (B = [b0, b1, b2, b3, b4, b5, b6, b7, b8])) (eZ : Hid (Z = [0, 0, 0, 0, 0, 0, 0, 0, 0])) (hA : Hid (okD A)) (hB : Hid (okD B)) (hZ : Hid (okD Z)) (w : World) :
    Calls Try.prog 29 #[.agg #[.int .u64 a0, .int .u64 a1, .int .u64 a2, .int .u64 a3, .int .u64 a4, .int .u64 a5, .int .u64 a6, .int .u64 a7, .int .u64 a8], .agg #[.int .u64 b0, .int .u64 b1, .int .u64 b2, .int .u64 b3, .int .u64 b4, .int .u64 b5, .int .u64 b6, .int .u64 b7, .int .u64 b8]] w (Pr A B w) := by
  go_enter Try.func29, Try.ntmps29
  go_wp2_with fail
  go_loopg [6] 9 (fun g i wr => ∃ n : Nat, g = 9 - n ∧ n ≤ 9 ∧ i = .int .i64 n ∧ ∃ D, Hid (okD D) ∧ Below w.heap.size w wr ∧ Blk wr (w.heap.size) 39 (uv A) ∧ Blk wr (w.heap.size + 1) 39 (uv B) ∧ Blk wr (w.heap.size + 1 + 1) 39 (uv Z) ∧ Blk wr (w.heap.size + 1 + 1 + 1) 39 (uv D) ∧ Hid (∃ q, dv D = dv (A.take n) * dv B + 22300745198530623141535718272648361505980416 * q))
  case atStart =>
    refine ⟨0, rfl, by omega, rfl, Z, hZ, (by repeat (first | with_reducible exact Below.refl _ _ | with_reducible assumption | with_reducible refine Below.setCell ?_ (by first | omega | (simp <;> omega)) _ | with_reducible refine below_drewN ?_ _ | with_reducible refine Below.drew ?_ | with_reducible refine Below.alloc ?_ (by first | omega | (simp <;> omega)) _)), ?_, ?_, ?_, ?_, Lib.hid ⟨0, by rw [eZ.out]; simp [dv]⟩⟩
    · rw [eA.out]; have := (((Blk.new w 39 #[.int .u64 a0, .int .u64 a1, .int .u64 a2, .int .u64 a3, .int .u64 a4, .int .u64 a5, .int .u64 a6, .int .u64 a7, .int .u64 a8]).alloc (.cells #[.int .u64 b0, .int .u64 b1, .int .u64 b2, .int .u64 b3, .int .u64 b4, .int .u64 b5, .int .u64 b6, .int .u64 b7, .int .u64 b8] 39)).alloc (.cells #[.int .u64 0, .int .u64 0, .int .u64 0, .int .u64 0, .int .u64 0, .int .u64 0, .int .u64 0, .int .u64 0, .int .u64 0] 39)).alloc (.cells #[.int .u64 0, .int .u64 0, .int .u64 0, .int .u64 0, .int .u64 0, .int .u64 0, .int .u64 0, .int .u64 0, .int .u64 0] 39); simpa [uv] using this
    · rw [eB.out]; have := ((Blk.new (w.alloc (.cells #[.int .u64 a0, .int .u64 a1, .int .u64 a2, .int .u64 a3, .int .u64 a4, .int .u64 a5, .int .u64 a6, .int .u64 a7, .int .u64 a8] 39)) 39 #[.int .u64 b0, .int .u64 b1, .int .u64 b2, .int .u64 b3, .int .u64 b4, .int .u64 b5, .int .u64 b6, .int .u64 b7, .int .u64 b8]).alloc (.cells #[.int .u64 0, .int .u64 0, .int .u64 0, .int .u64 0, .int .u64 0, .int .u64 0, .int .u64 0, .int .u64 0, .int .u64 0] 39)).alloc (.cells #[.int .u64 0, .int .u64 0, .int .u64 0, .int .u64 0, .int .u64 0, .int .u64 0, .int .u64 0, .int .u64 0, .int .u64 0] 39); simpa [uv] using this
    · rw [eZ.out]; have := (Blk.new ((w.alloc (.cells #[.int .u64 a0, .int .u64 a1, .int .u64 a2, .int .u64 a3, .int .u64 a4, .int .u64 a5, .int .u64 a6, .int .u64 a7, .int .u64 a8] 39)).alloc (.cells #[.int .u64 b0, .int .u64 b1, .int .u64 b2, .int .u64 b3, .int .u64 b4, .int .u64 b5, .int .u64 b6, .int .u64 b7, .int .u64 b8] 39)) 39 #[.int .u64 0, .int .u64 0, .int .u64 0, .int .u64 0, .int .u64 0, .int .u64 0, .int .u64 0, .int .u64 0, .int .u64 0]).alloc (.cells #[.int .u64 0, .int .u64 0, .int .u64 0, .int .u64 0, .int .u64 0, .int .u64 0, .int .u64 0, .int .u64 0, .int .u64 0] 39); simpa [uv] using this
    · rw [eZ.out]; have := Blk.new (((w.alloc (.cells #[.int .u64 a0, .int .u64 a1, .int .u64 a2, .int .u64 a3, .int .u64 a4, .int .u64 a5, .int .u64 a6, .int .u64 a7, .int .u64 a8] 39)).alloc (.cells #[.int .u64 b0, .int .u64 b1, .int .u64 b2, .int .u64 b3, .int .u64 b4, .int .u64 b5, .int .u64 b6, .int .u64 b7, .int .u64 b8] 39)).alloc (.cells #[.int .u64 0, .int .u64 0, .int .u64 0, .int .u64 0, .int .u64 0, .int .u64 0, .int .u64 0, .int .u64 0, .int .u64 0] 39)) 39 #[.int .u64 0, .int .u64 0, .int .u64 0, .int .u64 0, .int .u64 0, .int .u64 0, .int .u64 0, .int .u64 0, .int .u64 0]; simpa [uv] using this
  case round =>
    obtain ⟨n, rfl, hn9, rfl, D, hD, kb, ba, bb, bz, bd, hv⟩ := hrel
    by_cases hn : n < 9
    · obtain ⟨wo, rfl⟩ : ∃ wo : World, wo = wr := ⟨_, rfl⟩
      obtain ⟨y, ey⟩ : ∃ y, A.getD n 0 = y := ⟨_, rfl⟩
      obtain ⟨y0, y1⟩ := hA.out.2 n hn
      rw [ey] at y0 y1
      have Ey := Lib.hid ey
      clear ey
      go_wp2_with fail
      go_loopg [7, 8] (9 - n) (fun g c k wr => ∃ m : Nat, g = 9 - n - m ∧ m + n ≤ 9 ∧ k = .int .i64 m ∧ ∃ (c' : Int) (E : List Int), c = .int .u64 c' ∧ 0 ≤ c' ∧ c' ≤ 65535 ∧ Hid (okD E) ∧ Below w.heap.size w wr ∧ Blk wr (w.heap.size) 39 (uv A) ∧ Blk wr (w.heap.size + 1) 39 (uv B) ∧ Blk wr (w.heap.size + 1 + 1) 39 (uv Z) ∧ Blk wr (w.heap.size + 1 + 1 + 1) 39 (uv E) ∧ Hid (dv E + c' * 65536 ^ (n + m) = dv D + y * 65536 ^ n * dv (B.take m)))
      case atStart => exact ⟨0, rfl, by omega, rfl, 0, D, rfl, by omega, by omega, hD, kb, ba, bb, bz, bd, Lib.hid (by simp [dv])⟩
      case round =>
        clear kb ba bb bz bd
        obtain ⟨m, rfl, hm9, rfl, c, E, rfl, c0, c1, hE, kb, ba, bb, bz, be, he⟩ := hrel
        by_cases hm : m + n < 9
        · obtain ⟨z, ez⟩ : ∃ z, B.getD m 0 = z := ⟨_, rfl⟩
          obtain ⟨x, ex⟩ : ∃ x, E.getD (n + m) 0 = x := ⟨_, rfl⟩
          obtain ⟨z0, z1⟩ := hB.out.2 m (by omega)
          obtain ⟨x0, x1⟩ := hE.out.2 (n + m) (by omega)
          rw [ez] at z0 z1
          rw [ex] at x0 x1
          have qa : wr.cell? ⟨w.heap.size, n, none⟩ = some (.int .u64 y) := by rw [ba.cell, uv_get hA.out hn, Ey.out]
          have qb : wr.cell? ⟨w.heap.size + 1, m, none⟩ = some (.int .u64 z) := by rw [bb.cell, uv_get hB.out (by omega), ez]
          have qc : wr.cell? ⟨w.heap.size + 1 + 1 + 1, n + m, none⟩ = some (.int .u64 x) := by rw [be.cell, uv_get hE.out (by omega), ex]
          have fc : wr.frozen? ⟨w.heap.size + 1 + 1 + 1, n + m, none⟩ = false := be.frozen (n + m)
          have zc := be.lt
          obtain ⟨M2, M1, N, t1, t2, t3, t4, t5, eN⟩ := n_bds x0 x1 y0 y1 z0 z1 c0 c1
          obtain ⟨v1, v2, v3, v4⟩ := div_bd t4 t5
          have s1 : IntKind.i64.wrap (↑m + ↑n) = ↑m + (↑n : Int) := IntWalk.i64_in _ (by omega)
          have s2 : IntKind.i64.wrap (↑n + ↑m) = ↑n + (↑m : Int) := IntWalk.i64_in _ (by omega)
          have s3 : (↑n + (↑m : Int)).toNat = n + m := by omega
          have s4 : (0 : Int) ≤ ↑n + (↑m : Int) := by omega
          have s5 : (↑n + (↑m : Int)) < 9 := by omega
          have s6 : (↑m + (↑n : Int)) < 9 := by omega
          have s7 : (m : Int) < 9 := by omega
          have s8 : (n : Int) < 9 := by omega
          have EZ := Lib.hid ez
          have EX := Lib.hid ex
          have EN := Lib.hid eN
          clear ez ex eN
          go_wp2_with fail
          go_quiet (fail)
          go_wp2_with fail
          go_roundg (9 - n - (m + 1))
          case measure => omega
          case rel => exact ⟨m + 1, rfl, by omega, by go_num, N / 65536, E.set (n + m) (N % 65536), rfl, v1, v2, Lib.hid (hE.out.set _ _ v3 v4), (by repeat (first | with_reducible exact Below.refl _ _ | with_reducible assumption | with_reducible refine Below.setCell ?_ (by first | omega | (simp <;> omega)) _ | with_reducible refine below_drewN ?_ _ | with_reducible refine Below.drew ?_ | with_reducible refine Below.alloc ?_ (by first | omega | (simp <;> omega)) _)), (ba.drewN nq).far (by dsimp only; omega) _, (bb.drewN nq).far (by dsimp only; omega) _, (bz.drewN nq).far (by dsimp only; omega) _, (by rw [← uv_set]; exact (be.drewN nq).set_ (n + m) _), Lib.hid (in_step hE.out hB.out (by omega) EX.out (by rw [EZ.out]; exact EN.out) he.out)⟩
        · obtain rfl : m = 9 - n := by omega
          have s5 : ¬ ((↑(9 - n) + (↑n : Int)) < 9) := by omega
          have s1 : IntKind.i64.wrap (↑(9 - n) + ↑n) = ↑(9 - n) + (↑n : Int) := IntWalk.i64_in _ (by omega)
          go_wp2_with fail
          go_roundg (9 - (n + 1))
          case measure => omega
          case rel =>
            obtain ⟨q, hq⟩ := hv.out
            exact ⟨n + 1, rfl, by omega, by go_num, E, hE, kb, ba, bb, bz, be, Lib.hid (out_step hA.out hB.out hn Ey.out he.out hq)⟩
    · obtain rfl : n = 9 := by omega
      obtain ⟨d0, d1, d2, d3, d4, d5, d6, d7, d8, eD⟩ := nine hD.out
      rw [eZ.out] at bz
      have bd' : Blk wr (w.heap.size + 1 + 1 + 1) 39 (uv [d0, d1, d2, d3, d4, d5, d6, d7, d8]) := by rw [← eD]; exact bd
      clear bd ba bb
      have c0 : wr.cell? ⟨w.heap.size + 1 + 1 + 1, 0, none⟩ = some (.int .u64 d0) := by rw [bd'.cell]; rfl
      have z0 : wr.cell? ⟨w.heap.size + 1 + 1, 0, none⟩ = some (.int .u64 0) := by rw [bz.cell]; rfl
      have f0 : wr.frozen? ⟨w.heap.size + 1 + 1, 0, none⟩ = false := bz.frozen 0
      have c1 : wr.cell? ⟨w.heap.size + 1 + 1 + 1, 1, none⟩ = some (.int .u64 d1) := by rw [bd'.cell]; rfl
      have z1 : wr.cell? ⟨w.heap.size + 1 + 1, 1, none⟩ = some (.int .u64 0) := by rw [bz.cell]; rfl
      have f1 : wr.frozen? ⟨w.heap.size + 1 + 1, 1, none⟩ = false := bz.frozen 1
      have c2 : wr.cell? ⟨w.heap.size + 1 + 1 + 1, 2, none⟩ = some (.int .u64 d2) := by rw [bd'.cell]; rfl
      have z2 : wr.cell? ⟨w.heap.size + 1 + 1, 2, none⟩ = some (.int .u64 0) := by rw [bz.cell]; rfl
      have f2 : wr.frozen? ⟨w.heap.size + 1 + 1, 2, none⟩ = false := bz.frozen 2
      have c3 : wr.cell? ⟨w.heap.size + 1 + 1 + 1, 3, none⟩ = some (.int .u64 d3) := by rw [bd'.cell]; rfl
      have z3 : wr.cell? ⟨w.heap.size + 1 + 1, 3, none⟩ = some (.int .u64 0) := by rw [bz.cell]; rfl
      have f3 : wr.frozen? ⟨w.heap.size + 1 + 1, 3, none⟩ = false := bz.frozen 3
      have c4 : wr.cell? ⟨w.heap.size + 1 + 1 + 1, 4, none⟩ = some (.int .u64 d4) := by rw [bd'.cell]; rfl
      have z4 : wr.cell? ⟨w.heap.size + 1 + 1, 4, none⟩ = some (.int .u64 0) := by rw [bz.cell]; rfl
      have f4 : wr.frozen? ⟨w.heap.size + 1 + 1, 4, none⟩ = false := bz.frozen 4
      have c5 : wr.cell? ⟨w.heap.size + 1 + 1 + 1, 5, none⟩ = some (.int .u64 d5) := by rw [bd'.cell]; rfl
      have z5 : wr.cell? ⟨w.heap.size + 1 + 1, 5, none⟩ = some (.int .u64 0) := by rw [bz.cell]; rfl
      have f5 : wr.frozen? ⟨w.heap.size + 1 + 1, 5, none⟩ = false := bz.frozen 5
      have c6 : wr.cell? ⟨w.heap.size + 1 + 1 + 1, 6, none⟩ = some (.int .u64 d6) := by rw [bd'.cell]; rfl
      have z6 : wr.cell? ⟨w.heap.size + 1 + 1, 6, none⟩ = some (.int .u64 0) := by rw [bz.cell]; rfl
      have f6 : wr.frozen? ⟨w.heap.size + 1 + 1, 6, none⟩ = false := bz.frozen 6
      have c7 : wr.cell? ⟨w.heap.size + 1 + 1 + 1, 7, none⟩ = some (.int .u64 d7) := by rw [bd'.cell]; rfl
      have z7 : wr.cell? ⟨w.heap.size + 1 + 1, 7, none⟩ = some (.int .u64 0) := by rw [bz.cell]; rfl
      have f7 : wr.frozen? ⟨w.heap.size + 1 + 1, 7, none⟩ = false := bz.frozen 7
      have c8 : wr.cell? ⟨w.heap.size + 1 + 1 + 1, 8, none⟩ = some (.int .u64 d8) := by rw [bd'.cell]; rfl
      have z8 : wr.cell? ⟨w.heap.size + 1 + 1, 8, none⟩ = some (.int .u64 0) := by rw [bz.cell]; rfl
      have f8 : wr.frozen? ⟨w.heap.size + 1 + 1, 8, none⟩ = false := bz.frozen 8
      have x3 := bd'.lt
      have x2 := bz.lt
      have ED := Lib.hid eD
      clear bd' bz eD
      go_wp2_with fail
      refine bodyPost_ret (v := .agg #[.int .u64 d0, .int .u64 d1, .int .u64 d2, .int .u64 d3, .int .u64 d4, .int .u64 d5, .int .u64 d6, .int .u64 d7, .int .u64 d8]) (by simp [results, Try.results29, go_sem, x2, x3, z0, z1, z2, z3, z4, z5, z6, z7, z8]) rfl ⟨D, hD.out, ?_, by rw [ED.out]; rfl, (by repeat (first | with_reducible exact Below.refl _ _ | with_reducible assumption | with_reducible refine Below.setCell ?_ (by first | omega | (simp <;> omega)) _ | with_reducible refine below_drewN ?_ _ | with_reducible refine Below.drew ?_ | with_reducible refine Below.alloc ?_ (by first | omega | (simp <;> omega)) _))⟩
      obtain ⟨q, hq⟩ := hv.out
      rw [take9 hA.out] at hq
      exact ⟨q, hq⟩
end Go.Proofs.Ytjfdlamfklhodaa
