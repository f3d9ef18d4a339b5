/- A request with nothing but what its kinds look at (layer 29). -/
import Derived.Test.YtencgokpbfkeiaaH1
import Derived.Test.YtencgokpbfkeiaaZ
set_option linter.unusedVariables false
namespace Go.Proofs.Ytencgokpbfkeiaa
open Go.ChangeShapes Go.WideShapes Go.ChangeAt Go.RowKit
set_option maxRecDepth 100000 in
set_option maxHeartbeats 8000000 in
theorem only_no (rk ck pi px py si sl sh qk qa qb qc qd qe qf qg qx qy : Int) (w : World) (hg : Rq.good ⟨rk, ck, pi, px, py, si, sl, sh, ⟨qk, qa, qb, qc, qd, qe, qf, qg, qx, qy⟩⟩ = false) :
    Calls Try.prog 32 #[.agg #[.int .i64 rk, .int .i64 ck, .int .i64 pi, .int .i64 px, .int .i64 py, .int .i64 si, .int .i64 sl, .int .i64 sh, .int .i64 qk, .int .i64 qa, .int .i64 qb, .int .i64 qc, .int .i64 qd, .int .i64 qe, .int .i64 qf, .int .i64 qg, .int .i64 qx, .int .i64 qy]] w fun e w' => e = .returned (.agg #[.int .i64 0, .int .i64 0, .int .i64 0, .int .i64 0, .int .i64 0, .int .i64 0, .int .i64 0, .int .i64 0, .int .i64 0, .int .i64 0, .int .i64 0, .int .i64 0, .int .i64 0, .int .i64 0, .int .i64 0, .int .i64 0, .int .i64 0, .int .i64 0]) ∧ Below w.heap.size w w' := by
  have G := good_any rk ck pi px py si sl sh qk qa qb qc qd qe qf qg qx qy ((w.alloc (.cells #[.int .i64 rk, .int .i64 ck, .int .i64 pi, .int .i64 px, .int .i64 py, .int .i64 si, .int .i64 sl, .int .i64 sh, .int .i64 qk, .int .i64 qa, .int .i64 qb, .int .i64 qc, .int .i64 qd, .int .i64 qe, .int .i64 qf, .int .i64 qg, .int .i64 qx, .int .i64 qy] 57)).alloc (.cells #[.int .i64 0, .int .i64 0, .int .i64 0, .int .i64 0, .int .i64 0, .int .i64 0, .int .i64 0, .int .i64 0, .int .i64 0, .int .i64 0, .int .i64 0, .int .i64 0, .int .i64 0, .int .i64 0, .int .i64 0, .int .i64 0, .int .i64 0, .int .i64 0] 57))
  rw [hg] at G
  have HG := Lib.hid G
  have A0 : Hid (Blk ((w.alloc (.cells #[.int .i64 rk, .int .i64 ck, .int .i64 pi, .int .i64 px, .int .i64 py, .int .i64 si, .int .i64 sl, .int .i64 sh, .int .i64 qk, .int .i64 qa, .int .i64 qb, .int .i64 qc, .int .i64 qd, .int .i64 qe, .int .i64 qf, .int .i64 qg, .int .i64 qx, .int .i64 qy] 57)).alloc (.cells #[.int .i64 0, .int .i64 0, .int .i64 0, .int .i64 0, .int .i64 0, .int .i64 0, .int .i64 0, .int .i64 0, .int .i64 0, .int .i64 0, .int .i64 0, .int .i64 0, .int .i64 0, .int .i64 0, .int .i64 0, .int .i64 0, .int .i64 0, .int .i64 0] 57)) w.heap.size 57 #[.int .i64 rk, .int .i64 ck, .int .i64 pi, .int .i64 px, .int .i64 py, .int .i64 si, .int .i64 sl, .int .i64 sh, .int .i64 qk, .int .i64 qa, .int .i64 qb, .int .i64 qc, .int .i64 qd, .int .i64 qe, .int .i64 qf, .int .i64 qg, .int .i64 qx, .int .i64 qy]) := Lib.hid ((Blk.new w 57 _).alloc _)
  have R0 : Hid (Blk ((w.alloc (.cells #[.int .i64 rk, .int .i64 ck, .int .i64 pi, .int .i64 px, .int .i64 py, .int .i64 si, .int .i64 sl, .int .i64 sh, .int .i64 qk, .int .i64 qa, .int .i64 qb, .int .i64 qc, .int .i64 qd, .int .i64 qe, .int .i64 qf, .int .i64 qg, .int .i64 qx, .int .i64 qy] 57)).alloc (.cells #[.int .i64 0, .int .i64 0, .int .i64 0, .int .i64 0, .int .i64 0, .int .i64 0, .int .i64 0, .int .i64 0, .int .i64 0, .int .i64 0, .int .i64 0, .int .i64 0, .int .i64 0, .int .i64 0, .int .i64 0, .int .i64 0, .int .i64 0, .int .i64 0] 57)) (w.heap.size + 1) 57 #[.int .i64 0, .int .i64 0, .int .i64 0, .int .i64 0, .int .i64 0, .int .i64 0, .int .i64 0, .int .i64 0, .int .i64 0, .int .i64 0, .int .i64 0, .int .i64 0, .int .i64 0, .int .i64 0, .int .i64 0, .int .i64 0, .int .i64 0, .int .i64 0]) := Lib.hid (by
    have h := Blk.new (w.alloc (.cells #[.int .i64 rk, .int .i64 ck, .int .i64 pi, .int .i64 px, .int .i64 py, .int .i64 si, .int .i64 sl, .int .i64 sh, .int .i64 qk, .int .i64 qa, .int .i64 qb, .int .i64 qc, .int .i64 qd, .int .i64 qe, .int .i64 qf, .int .i64 qg, .int .i64 qx, .int .i64 qy] 57)) 57 #[.int .i64 0, .int .i64 0, .int .i64 0, .int .i64 0, .int .i64 0, .int .i64 0, .int .i64 0, .int .i64 0, .int .i64 0, .int .i64 0, .int .i64 0, .int .i64 0, .int .i64 0, .int .i64 0, .int .i64 0, .int .i64 0, .int .i64 0, .int .i64 0]
    have e : (w.alloc (.cells #[.int .i64 rk, .int .i64 ck, .int .i64 pi, .int .i64 px, .int .i64 py, .int .i64 si, .int .i64 sl, .int .i64 sh, .int .i64 qk, .int .i64 qa, .int .i64 qb, .int .i64 qc, .int .i64 qd, .int .i64 qe, .int .i64 qf, .int .i64 qg, .int .i64 qx, .int .i64 qy] 57)).heap.size = w.heap.size + 1 := by simp
    rw [e] at h
    exact h)
  have KB : Hid (Below w.heap.size w ((w.alloc (.cells #[.int .i64 rk, .int .i64 ck, .int .i64 pi, .int .i64 px, .int .i64 py, .int .i64 si, .int .i64 sl, .int .i64 sh, .int .i64 qk, .int .i64 qa, .int .i64 qb, .int .i64 qc, .int .i64 qd, .int .i64 qe, .int .i64 qf, .int .i64 qg, .int .i64 qx, .int .i64 qy] 57)).alloc (.cells #[.int .i64 0, .int .i64 0, .int .i64 0, .int .i64 0, .int .i64 0, .int .i64 0, .int .i64 0, .int .i64 0, .int .i64 0, .int .i64 0, .int .i64 0, .int .i64 0, .int .i64 0, .int .i64 0, .int .i64 0, .int .i64 0, .int .i64 0, .int .i64 0] 57))) := Lib.hid (((Below.refl _ _).alloc (Nat.le_refl _) _).alloc (by simp) _)
  clear G hg
  go_enter Try.func32, Try.ntmps32
  go_wp2_with (first | (refine wpList_load_blk rfl 57 (.tmp 1) rfl 0 rfl A0.out 18 [.int .i64 rk, .int .i64 ck, .int .i64 pi, .int .i64 px, .int .i64 py, .int .i64 si, .int .i64 sl, .int .i64 sh, .int .i64 qk, .int .i64 qa, .int .i64 qb, .int .i64 qc, .int .i64 qd, .int .i64 qe, .int .i64 qf, .int .i64 qg, .int .i64 qx, .int .i64 qy] rfl _ Try.underlying57 rfl (by kernel_rfl) ?_) | fail)
  refine (HG.out).mono ?_
  rintro e v1 ⟨rfl, hb1⟩
  have HA := Lib.hid (A0.out.below hb1 A0.out.lt)
  have HR := Lib.hid (R0.out.below hb1 R0.out.lt)
  have HK := Lib.hid (KB.out.trans (hb1.mono KB.out.size))
  have hsz : w.heap.size + 1 < v1.heap.size := HR.out.lt
  clear hb1
  go_wp2_with (first
    | (refine wpList_store_blk rfl 57 (.tmp 2) (.tmp 7) rfl 0 [.int .i64 0, .int .i64 0, .int .i64 0, .int .i64 0, .int .i64 0, .int .i64 0, .int .i64 0, .int .i64 0, .int .i64 0, .int .i64 0, .int .i64 0, .int .i64 0, .int .i64 0, .int .i64 0, .int .i64 0, .int .i64 0, .int .i64 0, .int .i64 0] rfl rfl HR.out (Nat.le_of_ble_eq_true rfl) #[.int .i64 0, .int .i64 0, .int .i64 0, .int .i64 0, .int .i64 0, .int .i64 0, .int .i64 0, .int .i64 0, .int .i64 0, .int .i64 0, .int .i64 0, .int .i64 0, .int .i64 0, .int .i64 0, .int .i64 0, .int .i64 0, .int .i64 0, .int .i64 0] rfl (by kernel_rfl) rfl ?_
       intro v2 hb2 ho2
       have HR2 := Lib.hid hb2
       have HK2 := Lib.hid (HK.out.trans (ho2.below HK.out.size (fun i hi e => by omega)))
       clear hb2 ho2)
    | fail)
  exact bodyPost_ret (v := _) (results_blk rfl _ HR2.out _ rfl Try.underlying57 rfl (by kernel_rfl)) rfl ⟨rfl, HK2.out⟩
set_option maxRecDepth 100000 in
set_option maxHeartbeats 8000000 in
theorem only_1 (pi px py si sl sh qk qa qb qc qd qe qf qg qx qy : Int) (w : World) (hg : Rq.good ⟨1, 1, pi, px, py, si, sl, sh, ⟨qk, qa, qb, qc, qd, qe, qf, qg, qx, qy⟩⟩ = true) :
    Calls Try.prog 32 #[.agg #[.int .i64 1, .int .i64 1, .int .i64 pi, .int .i64 px, .int .i64 py, .int .i64 si, .int .i64 sl, .int .i64 sh, .int .i64 qk, .int .i64 qa, .int .i64 qb, .int .i64 qc, .int .i64 qd, .int .i64 qe, .int .i64 qf, .int .i64 qg, .int .i64 qx, .int .i64 qy]] w fun e w' => e = .returned (.agg #[.int .i64 1, .int .i64 1, .int .i64 pi, .int .i64 px, .int .i64 py, .int .i64 0, .int .i64 0, .int .i64 0, .int .i64 0, .int .i64 0, .int .i64 0, .int .i64 0, .int .i64 0, .int .i64 0, .int .i64 0, .int .i64 0, .int .i64 0, .int .i64 0]) ∧ Below w.heap.size w w' := by
  have G := good_any 1 1 pi px py si sl sh qk qa qb qc qd qe qf qg qx qy ((w.alloc (.cells #[.int .i64 1, .int .i64 1, .int .i64 pi, .int .i64 px, .int .i64 py, .int .i64 si, .int .i64 sl, .int .i64 sh, .int .i64 qk, .int .i64 qa, .int .i64 qb, .int .i64 qc, .int .i64 qd, .int .i64 qe, .int .i64 qf, .int .i64 qg, .int .i64 qx, .int .i64 qy] 57)).alloc (.cells #[.int .i64 0, .int .i64 0, .int .i64 0, .int .i64 0, .int .i64 0, .int .i64 0, .int .i64 0, .int .i64 0, .int .i64 0, .int .i64 0, .int .i64 0, .int .i64 0, .int .i64 0, .int .i64 0, .int .i64 0, .int .i64 0, .int .i64 0, .int .i64 0] 57))
  rw [hg] at G
  have HG := Lib.hid G
  have A0 : Hid (Blk ((w.alloc (.cells #[.int .i64 1, .int .i64 1, .int .i64 pi, .int .i64 px, .int .i64 py, .int .i64 si, .int .i64 sl, .int .i64 sh, .int .i64 qk, .int .i64 qa, .int .i64 qb, .int .i64 qc, .int .i64 qd, .int .i64 qe, .int .i64 qf, .int .i64 qg, .int .i64 qx, .int .i64 qy] 57)).alloc (.cells #[.int .i64 0, .int .i64 0, .int .i64 0, .int .i64 0, .int .i64 0, .int .i64 0, .int .i64 0, .int .i64 0, .int .i64 0, .int .i64 0, .int .i64 0, .int .i64 0, .int .i64 0, .int .i64 0, .int .i64 0, .int .i64 0, .int .i64 0, .int .i64 0] 57)) w.heap.size 57 #[.int .i64 1, .int .i64 1, .int .i64 pi, .int .i64 px, .int .i64 py, .int .i64 si, .int .i64 sl, .int .i64 sh, .int .i64 qk, .int .i64 qa, .int .i64 qb, .int .i64 qc, .int .i64 qd, .int .i64 qe, .int .i64 qf, .int .i64 qg, .int .i64 qx, .int .i64 qy]) := Lib.hid ((Blk.new w 57 _).alloc _)
  have R0 : Hid (Blk ((w.alloc (.cells #[.int .i64 1, .int .i64 1, .int .i64 pi, .int .i64 px, .int .i64 py, .int .i64 si, .int .i64 sl, .int .i64 sh, .int .i64 qk, .int .i64 qa, .int .i64 qb, .int .i64 qc, .int .i64 qd, .int .i64 qe, .int .i64 qf, .int .i64 qg, .int .i64 qx, .int .i64 qy] 57)).alloc (.cells #[.int .i64 0, .int .i64 0, .int .i64 0, .int .i64 0, .int .i64 0, .int .i64 0, .int .i64 0, .int .i64 0, .int .i64 0, .int .i64 0, .int .i64 0, .int .i64 0, .int .i64 0, .int .i64 0, .int .i64 0, .int .i64 0, .int .i64 0, .int .i64 0] 57)) (w.heap.size + 1) 57 #[.int .i64 0, .int .i64 0, .int .i64 0, .int .i64 0, .int .i64 0, .int .i64 0, .int .i64 0, .int .i64 0, .int .i64 0, .int .i64 0, .int .i64 0, .int .i64 0, .int .i64 0, .int .i64 0, .int .i64 0, .int .i64 0, .int .i64 0, .int .i64 0]) := Lib.hid (by
    have h := Blk.new (w.alloc (.cells #[.int .i64 1, .int .i64 1, .int .i64 pi, .int .i64 px, .int .i64 py, .int .i64 si, .int .i64 sl, .int .i64 sh, .int .i64 qk, .int .i64 qa, .int .i64 qb, .int .i64 qc, .int .i64 qd, .int .i64 qe, .int .i64 qf, .int .i64 qg, .int .i64 qx, .int .i64 qy] 57)) 57 #[.int .i64 0, .int .i64 0, .int .i64 0, .int .i64 0, .int .i64 0, .int .i64 0, .int .i64 0, .int .i64 0, .int .i64 0, .int .i64 0, .int .i64 0, .int .i64 0, .int .i64 0, .int .i64 0, .int .i64 0, .int .i64 0, .int .i64 0, .int .i64 0]
    have e : (w.alloc (.cells #[.int .i64 1, .int .i64 1, .int .i64 pi, .int .i64 px, .int .i64 py, .int .i64 si, .int .i64 sl, .int .i64 sh, .int .i64 qk, .int .i64 qa, .int .i64 qb, .int .i64 qc, .int .i64 qd, .int .i64 qe, .int .i64 qf, .int .i64 qg, .int .i64 qx, .int .i64 qy] 57)).heap.size = w.heap.size + 1 := by simp
    rw [e] at h
    exact h)
  have KB : Hid (Below w.heap.size w ((w.alloc (.cells #[.int .i64 1, .int .i64 1, .int .i64 pi, .int .i64 px, .int .i64 py, .int .i64 si, .int .i64 sl, .int .i64 sh, .int .i64 qk, .int .i64 qa, .int .i64 qb, .int .i64 qc, .int .i64 qd, .int .i64 qe, .int .i64 qf, .int .i64 qg, .int .i64 qx, .int .i64 qy] 57)).alloc (.cells #[.int .i64 0, .int .i64 0, .int .i64 0, .int .i64 0, .int .i64 0, .int .i64 0, .int .i64 0, .int .i64 0, .int .i64 0, .int .i64 0, .int .i64 0, .int .i64 0, .int .i64 0, .int .i64 0, .int .i64 0, .int .i64 0, .int .i64 0, .int .i64 0] 57))) := Lib.hid (((Below.refl _ _).alloc (Nat.le_refl _) _).alloc (by simp) _)
  clear G hg
  go_enter Try.func32, Try.ntmps32
  go_wp2_with (first | (refine wpList_load_blk rfl 57 (.tmp 1) rfl 0 rfl A0.out 18 [.int .i64 1, .int .i64 1, .int .i64 pi, .int .i64 px, .int .i64 py, .int .i64 si, .int .i64 sl, .int .i64 sh, .int .i64 qk, .int .i64 qa, .int .i64 qb, .int .i64 qc, .int .i64 qd, .int .i64 qe, .int .i64 qf, .int .i64 qg, .int .i64 qx, .int .i64 qy] rfl _ Try.underlying57 rfl (by kernel_rfl) ?_) | fail)
  refine (HG.out).mono ?_
  rintro e v1 ⟨rfl, hb1⟩
  have HA := Lib.hid (A0.out.below hb1 A0.out.lt)
  have HR := Lib.hid (R0.out.below hb1 R0.out.lt)
  have HK := Lib.hid (KB.out.trans (hb1.mono KB.out.size))
  have hsz : w.heap.size + 1 < v1.heap.size := HR.out.lt
  clear hb1
  have c0 : v1.cell? ⟨w.heap.size, 0, none⟩ = some (.int .i64 1) := by rw [HA.out.cell]; rfl
  have c1 : v1.cell? ⟨w.heap.size, 1, none⟩ = some (.int .i64 1) := by rw [HA.out.cell]; rfl
  have C0 : Hid (Blk (v1.alloc (.cells #[.int .i64 0, .int .i64 0, .int .i64 0, .int .i64 0, .int .i64 0, .int .i64 0, .int .i64 0] 55)) v1.heap.size 55 #[.int .i64 0, .int .i64 0, .int .i64 0, .int .i64 0, .int .i64 0, .int .i64 0, .int .i64 0]) := Lib.hid (Blk.new v1 _ _)
  go_wp2_with (first
    | (refine wpList_store_blk rfl 55 (.tmp 3) (.tmp 20) rfl 0 [.int .i64 1, .int .i64 0, .int .i64 0, .int .i64 0, .int .i64 0, .int .i64 0, .int .i64 0] rfl rfl C0.out (Nat.le_of_ble_eq_true rfl) #[.int .i64 1, .int .i64 0, .int .i64 0, .int .i64 0, .int .i64 0, .int .i64 0, .int .i64 0] rfl (by kernel_rfl) rfl ?_
       intro v2 hb2 ho2
       have hz0 : (v1.alloc (.cells #[.int .i64 0, .int .i64 0, .int .i64 0, .int .i64 0, .int .i64 0, .int .i64 0, .int .i64 0] 55)).heap.size = v1.heap.size + 1 := by simp
       have HC := Lib.hid hb2
       have oA : Only (fun i => i = v1.heap.size) v1 v2 := ((Only.refl _ v1).alloc _).trans ho2 (fun _ _ h => h)
       have HA2 := Lib.hid (oA.blk HA.out (fun e => by have := HA.out.lt; omega))
       have HR2 := Lib.hid (oA.blk HR.out (fun e => by have := HR.out.lt; omega))
       have HK2 := Lib.hid (HK.out.trans (oA.below HK.out.size (fun i hi e => by have := HK.out.size; omega)))
       have n1 : w.heap.size < v1.heap.size := HA.out.lt
       have n2 : w.heap.size + 1 < v1.heap.size := HR.out.lt
       have x0 : v2.cell? ⟨w.heap.size, 0, none⟩ = some (.int .i64 1) := by rw [HA2.out.cell]; rfl
       have x1 : v2.cell? ⟨w.heap.size, 1, none⟩ = some (.int .i64 1) := by rw [HA2.out.cell]; rfl
       have y0 : v2.cell? ⟨v1.heap.size, 0, none⟩ = some (.int .i64 1) := by rw [HC.out.cell]; rfl
       clear hb2 ho2 oA hz0 c0 c1)
    | (refine wpList_load_blk rfl 51 (.tmp 26) rfl 2 rfl HA2.out 3 [.int .i64 pi, .int .i64 px, .int .i64 py] rfl _ Try.underlying51 rfl (by kernel_rfl) ?_)
    | (refine wpList_store_blk rfl 51 (.tmp 28) (.tmp 27) rfl 1 [.int .i64 pi, .int .i64 px, .int .i64 py] rfl rfl HC.out (Nat.le_of_ble_eq_true rfl) #[.int .i64 1, .int .i64 pi, .int .i64 px, .int .i64 py, .int .i64 0, .int .i64 0, .int .i64 0] rfl (by kernel_rfl) rfl ?_
       intro v3 hb3 ho3
       have HC3 := Lib.hid hb3
       have HR3 := Lib.hid (ho3.blk HR2.out (fun e => by omega))
       have HA3 := Lib.hid (ho3.blk HA2.out (fun e => by omega))
       have HK3 := Lib.hid (HK2.out.trans (ho3.below HK2.out.size (fun i hi e => by omega)))
       have u0 : v3.cell? ⟨w.heap.size, 0, none⟩ = some (.int .i64 1) := by rw [HA3.out.cell]; rfl
       clear hb3 ho3)
    | (refine wpList_load_blk rfl 55 (.tmp 3) rfl 0 rfl HC3.out 7 [.int .i64 1, .int .i64 pi, .int .i64 px, .int .i64 py, .int .i64 0, .int .i64 0, .int .i64 0] rfl _ Try.underlying55 rfl (by kernel_rfl) ?_)
    | (refine wpList_store_blk rfl 57 (.tmp 2) (.tmp 54) rfl 0 [.int .i64 1, .int .i64 1, .int .i64 pi, .int .i64 px, .int .i64 py, .int .i64 0, .int .i64 0, .int .i64 0, .int .i64 0, .int .i64 0, .int .i64 0, .int .i64 0, .int .i64 0, .int .i64 0, .int .i64 0, .int .i64 0, .int .i64 0, .int .i64 0] rfl rfl HR3.out (Nat.le_of_ble_eq_true rfl) #[.int .i64 1, .int .i64 1, .int .i64 pi, .int .i64 px, .int .i64 py, .int .i64 0, .int .i64 0, .int .i64 0, .int .i64 0, .int .i64 0, .int .i64 0, .int .i64 0, .int .i64 0, .int .i64 0, .int .i64 0, .int .i64 0, .int .i64 0, .int .i64 0] rfl (by kernel_rfl) rfl ?_
       intro v4 hb4 ho4
       have HR4 := Lib.hid hb4
       have HK4 := Lib.hid (HK3.out.trans (ho4.below HK3.out.size (fun i hi e => by omega)))
       clear hb4 ho4)
    | fail)
  exact bodyPost_ret (v := _) (results_blk rfl _ HR4.out _ rfl Try.underlying57 rfl (by kernel_rfl)) rfl ⟨rfl, HK4.out⟩
set_option maxRecDepth 100000 in
set_option maxHeartbeats 8000000 in
theorem only_2 (pi px py si sl sh qk qa qb qc qd qe qf qg qx qy : Int) (w : World) (hg : Rq.good ⟨1, 2, pi, px, py, si, sl, sh, ⟨qk, qa, qb, qc, qd, qe, qf, qg, qx, qy⟩⟩ = true) :
    Calls Try.prog 32 #[.agg #[.int .i64 1, .int .i64 2, .int .i64 pi, .int .i64 px, .int .i64 py, .int .i64 si, .int .i64 sl, .int .i64 sh, .int .i64 qk, .int .i64 qa, .int .i64 qb, .int .i64 qc, .int .i64 qd, .int .i64 qe, .int .i64 qf, .int .i64 qg, .int .i64 qx, .int .i64 qy]] w fun e w' => e = .returned (.agg #[.int .i64 1, .int .i64 2, .int .i64 pi, .int .i64 0, .int .i64 0, .int .i64 0, .int .i64 0, .int .i64 0, .int .i64 0, .int .i64 0, .int .i64 0, .int .i64 0, .int .i64 0, .int .i64 0, .int .i64 0, .int .i64 0, .int .i64 0, .int .i64 0]) ∧ Below w.heap.size w w' := by
  have G := good_any 1 2 pi px py si sl sh qk qa qb qc qd qe qf qg qx qy ((w.alloc (.cells #[.int .i64 1, .int .i64 2, .int .i64 pi, .int .i64 px, .int .i64 py, .int .i64 si, .int .i64 sl, .int .i64 sh, .int .i64 qk, .int .i64 qa, .int .i64 qb, .int .i64 qc, .int .i64 qd, .int .i64 qe, .int .i64 qf, .int .i64 qg, .int .i64 qx, .int .i64 qy] 57)).alloc (.cells #[.int .i64 0, .int .i64 0, .int .i64 0, .int .i64 0, .int .i64 0, .int .i64 0, .int .i64 0, .int .i64 0, .int .i64 0, .int .i64 0, .int .i64 0, .int .i64 0, .int .i64 0, .int .i64 0, .int .i64 0, .int .i64 0, .int .i64 0, .int .i64 0] 57))
  rw [hg] at G
  have HG := Lib.hid G
  have A0 : Hid (Blk ((w.alloc (.cells #[.int .i64 1, .int .i64 2, .int .i64 pi, .int .i64 px, .int .i64 py, .int .i64 si, .int .i64 sl, .int .i64 sh, .int .i64 qk, .int .i64 qa, .int .i64 qb, .int .i64 qc, .int .i64 qd, .int .i64 qe, .int .i64 qf, .int .i64 qg, .int .i64 qx, .int .i64 qy] 57)).alloc (.cells #[.int .i64 0, .int .i64 0, .int .i64 0, .int .i64 0, .int .i64 0, .int .i64 0, .int .i64 0, .int .i64 0, .int .i64 0, .int .i64 0, .int .i64 0, .int .i64 0, .int .i64 0, .int .i64 0, .int .i64 0, .int .i64 0, .int .i64 0, .int .i64 0] 57)) w.heap.size 57 #[.int .i64 1, .int .i64 2, .int .i64 pi, .int .i64 px, .int .i64 py, .int .i64 si, .int .i64 sl, .int .i64 sh, .int .i64 qk, .int .i64 qa, .int .i64 qb, .int .i64 qc, .int .i64 qd, .int .i64 qe, .int .i64 qf, .int .i64 qg, .int .i64 qx, .int .i64 qy]) := Lib.hid ((Blk.new w 57 _).alloc _)
  have R0 : Hid (Blk ((w.alloc (.cells #[.int .i64 1, .int .i64 2, .int .i64 pi, .int .i64 px, .int .i64 py, .int .i64 si, .int .i64 sl, .int .i64 sh, .int .i64 qk, .int .i64 qa, .int .i64 qb, .int .i64 qc, .int .i64 qd, .int .i64 qe, .int .i64 qf, .int .i64 qg, .int .i64 qx, .int .i64 qy] 57)).alloc (.cells #[.int .i64 0, .int .i64 0, .int .i64 0, .int .i64 0, .int .i64 0, .int .i64 0, .int .i64 0, .int .i64 0, .int .i64 0, .int .i64 0, .int .i64 0, .int .i64 0, .int .i64 0, .int .i64 0, .int .i64 0, .int .i64 0, .int .i64 0, .int .i64 0] 57)) (w.heap.size + 1) 57 #[.int .i64 0, .int .i64 0, .int .i64 0, .int .i64 0, .int .i64 0, .int .i64 0, .int .i64 0, .int .i64 0, .int .i64 0, .int .i64 0, .int .i64 0, .int .i64 0, .int .i64 0, .int .i64 0, .int .i64 0, .int .i64 0, .int .i64 0, .int .i64 0]) := Lib.hid (by
    have h := Blk.new (w.alloc (.cells #[.int .i64 1, .int .i64 2, .int .i64 pi, .int .i64 px, .int .i64 py, .int .i64 si, .int .i64 sl, .int .i64 sh, .int .i64 qk, .int .i64 qa, .int .i64 qb, .int .i64 qc, .int .i64 qd, .int .i64 qe, .int .i64 qf, .int .i64 qg, .int .i64 qx, .int .i64 qy] 57)) 57 #[.int .i64 0, .int .i64 0, .int .i64 0, .int .i64 0, .int .i64 0, .int .i64 0, .int .i64 0, .int .i64 0, .int .i64 0, .int .i64 0, .int .i64 0, .int .i64 0, .int .i64 0, .int .i64 0, .int .i64 0, .int .i64 0, .int .i64 0, .int .i64 0]
    have e : (w.alloc (.cells #[.int .i64 1, .int .i64 2, .int .i64 pi, .int .i64 px, .int .i64 py, .int .i64 si, .int .i64 sl, .int .i64 sh, .int .i64 qk, .int .i64 qa, .int .i64 qb, .int .i64 qc, .int .i64 qd, .int .i64 qe, .int .i64 qf, .int .i64 qg, .int .i64 qx, .int .i64 qy] 57)).heap.size = w.heap.size + 1 := by simp
    rw [e] at h
    exact h)
  have KB : Hid (Below w.heap.size w ((w.alloc (.cells #[.int .i64 1, .int .i64 2, .int .i64 pi, .int .i64 px, .int .i64 py, .int .i64 si, .int .i64 sl, .int .i64 sh, .int .i64 qk, .int .i64 qa, .int .i64 qb, .int .i64 qc, .int .i64 qd, .int .i64 qe, .int .i64 qf, .int .i64 qg, .int .i64 qx, .int .i64 qy] 57)).alloc (.cells #[.int .i64 0, .int .i64 0, .int .i64 0, .int .i64 0, .int .i64 0, .int .i64 0, .int .i64 0, .int .i64 0, .int .i64 0, .int .i64 0, .int .i64 0, .int .i64 0, .int .i64 0, .int .i64 0, .int .i64 0, .int .i64 0, .int .i64 0, .int .i64 0] 57))) := Lib.hid (((Below.refl _ _).alloc (Nat.le_refl _) _).alloc (by simp) _)
  clear G hg
  go_enter Try.func32, Try.ntmps32
  go_wp2_with (first | (refine wpList_load_blk rfl 57 (.tmp 1) rfl 0 rfl A0.out 18 [.int .i64 1, .int .i64 2, .int .i64 pi, .int .i64 px, .int .i64 py, .int .i64 si, .int .i64 sl, .int .i64 sh, .int .i64 qk, .int .i64 qa, .int .i64 qb, .int .i64 qc, .int .i64 qd, .int .i64 qe, .int .i64 qf, .int .i64 qg, .int .i64 qx, .int .i64 qy] rfl _ Try.underlying57 rfl (by kernel_rfl) ?_) | fail)
  refine (HG.out).mono ?_
  rintro e v1 ⟨rfl, hb1⟩
  have HA := Lib.hid (A0.out.below hb1 A0.out.lt)
  have HR := Lib.hid (R0.out.below hb1 R0.out.lt)
  have HK := Lib.hid (KB.out.trans (hb1.mono KB.out.size))
  have hsz : w.heap.size + 1 < v1.heap.size := HR.out.lt
  clear hb1
  have c0 : v1.cell? ⟨w.heap.size, 0, none⟩ = some (.int .i64 1) := by rw [HA.out.cell]; rfl
  have c1 : v1.cell? ⟨w.heap.size, 1, none⟩ = some (.int .i64 2) := by rw [HA.out.cell]; rfl
  have C0 : Hid (Blk (v1.alloc (.cells #[.int .i64 0, .int .i64 0, .int .i64 0, .int .i64 0, .int .i64 0, .int .i64 0, .int .i64 0] 55)) v1.heap.size 55 #[.int .i64 0, .int .i64 0, .int .i64 0, .int .i64 0, .int .i64 0, .int .i64 0, .int .i64 0]) := Lib.hid (Blk.new v1 _ _)
  go_wp2_with (first
    | (refine wpList_store_blk rfl 55 (.tmp 3) (.tmp 20) rfl 0 [.int .i64 2, .int .i64 0, .int .i64 0, .int .i64 0, .int .i64 0, .int .i64 0, .int .i64 0] rfl rfl C0.out (Nat.le_of_ble_eq_true rfl) #[.int .i64 2, .int .i64 0, .int .i64 0, .int .i64 0, .int .i64 0, .int .i64 0, .int .i64 0] rfl (by kernel_rfl) rfl ?_
       intro v2 hb2 ho2
       have hz0 : (v1.alloc (.cells #[.int .i64 0, .int .i64 0, .int .i64 0, .int .i64 0, .int .i64 0, .int .i64 0, .int .i64 0] 55)).heap.size = v1.heap.size + 1 := by simp
       have HC := Lib.hid hb2
       have oA : Only (fun i => i = v1.heap.size) v1 v2 := ((Only.refl _ v1).alloc _).trans ho2 (fun _ _ h => h)
       have HA2 := Lib.hid (oA.blk HA.out (fun e => by have := HA.out.lt; omega))
       have HR2 := Lib.hid (oA.blk HR.out (fun e => by have := HR.out.lt; omega))
       have HK2 := Lib.hid (HK.out.trans (oA.below HK.out.size (fun i hi e => by have := HK.out.size; omega)))
       have n1 : w.heap.size < v1.heap.size := HA.out.lt
       have n2 : w.heap.size + 1 < v1.heap.size := HR.out.lt
       have x0 : v2.cell? ⟨w.heap.size, 0, none⟩ = some (.int .i64 1) := by rw [HA2.out.cell]; rfl
       have x1 : v2.cell? ⟨w.heap.size, 1, none⟩ = some (.int .i64 2) := by rw [HA2.out.cell]; rfl
       have y0 : v2.cell? ⟨v1.heap.size, 0, none⟩ = some (.int .i64 2) := by rw [HC.out.cell]; rfl
       have x2 : v2.cell? ⟨w.heap.size, 2, none⟩ = some (.int .i64 pi) := by rw [HA2.out.cell]; rfl
       have y1 : v2.cell? ⟨v1.heap.size, 1, none⟩ = some (.int .i64 0) := by rw [HC.out.cell]; rfl
       have yf : v2.frozen? ⟨v1.heap.size, 1, none⟩ = false := HC.out.frozen 1
       have HC3 : Hid (Blk (v2.setCell ⟨v1.heap.size, 1, none⟩ (.int .i64 pi)) v1.heap.size 55 #[.int .i64 2, .int .i64 pi, .int .i64 0, .int .i64 0, .int .i64 0, .int .i64 0, .int .i64 0]) := Lib.hid (HC.out.set_ 1 _)
       have o3 : Only (fun i => i = v1.heap.size) v2 (v2.setCell ⟨v1.heap.size, 1, none⟩ (.int .i64 pi)) := (Only.refl (fun i => i = v1.heap.size) v2).setCell (p := ⟨v1.heap.size, 1, none⟩) (.inr rfl) _
       have HR3 := Lib.hid (o3.blk HR2.out (fun e => by omega))
       have HK3 := Lib.hid (HK2.out.trans (o3.below HK2.out.size (fun i hi e => by omega)))
       have m1 : ¬ w.heap.size = v1.heap.size := by omega
       clear o3
       clear hb2 ho2 oA hz0 c0 c1)
    | (refine wpList_load_blk rfl 55 (.tmp 3) rfl 0 rfl HC3.out 7 [.int .i64 2, .int .i64 pi, .int .i64 0, .int .i64 0, .int .i64 0, .int .i64 0, .int .i64 0] rfl _ Try.underlying55 rfl (by kernel_rfl) ?_)
    | (refine wpList_store_blk rfl 57 (.tmp 2) (.tmp 54) rfl 0 [.int .i64 1, .int .i64 2, .int .i64 pi, .int .i64 0, .int .i64 0, .int .i64 0, .int .i64 0, .int .i64 0, .int .i64 0, .int .i64 0, .int .i64 0, .int .i64 0, .int .i64 0, .int .i64 0, .int .i64 0, .int .i64 0, .int .i64 0, .int .i64 0] rfl rfl HR3.out (Nat.le_of_ble_eq_true rfl) #[.int .i64 1, .int .i64 2, .int .i64 pi, .int .i64 0, .int .i64 0, .int .i64 0, .int .i64 0, .int .i64 0, .int .i64 0, .int .i64 0, .int .i64 0, .int .i64 0, .int .i64 0, .int .i64 0, .int .i64 0, .int .i64 0, .int .i64 0, .int .i64 0] rfl (by kernel_rfl) rfl ?_
       intro v4 hb4 ho4
       have HR4 := Lib.hid hb4
       have HK4 := Lib.hid (HK3.out.trans (ho4.below HK3.out.size (fun i hi e => by omega)))
       clear hb4 ho4)
    | fail)
  exact bodyPost_ret (v := _) (results_blk rfl _ HR4.out _ rfl Try.underlying57 rfl (by kernel_rfl)) rfl ⟨rfl, HK4.out⟩
set_option maxRecDepth 100000 in
set_option maxHeartbeats 8000000 in
theorem only_3 (pi px py si sl sh qk qa qb qc qd qe qf qg qx qy : Int) (w : World) (hg : Rq.good ⟨1, 3, pi, px, py, si, sl, sh, ⟨qk, qa, qb, qc, qd, qe, qf, qg, qx, qy⟩⟩ = true) :
    Calls Try.prog 32 #[.agg #[.int .i64 1, .int .i64 3, .int .i64 pi, .int .i64 px, .int .i64 py, .int .i64 si, .int .i64 sl, .int .i64 sh, .int .i64 qk, .int .i64 qa, .int .i64 qb, .int .i64 qc, .int .i64 qd, .int .i64 qe, .int .i64 qf, .int .i64 qg, .int .i64 qx, .int .i64 qy]] w fun e w' => e = .returned (.agg #[.int .i64 1, .int .i64 3, .int .i64 0, .int .i64 0, .int .i64 0, .int .i64 si, .int .i64 sl, .int .i64 sh, .int .i64 0, .int .i64 0, .int .i64 0, .int .i64 0, .int .i64 0, .int .i64 0, .int .i64 0, .int .i64 0, .int .i64 0, .int .i64 0]) ∧ Below w.heap.size w w' := by
  have G := good_any 1 3 pi px py si sl sh qk qa qb qc qd qe qf qg qx qy ((w.alloc (.cells #[.int .i64 1, .int .i64 3, .int .i64 pi, .int .i64 px, .int .i64 py, .int .i64 si, .int .i64 sl, .int .i64 sh, .int .i64 qk, .int .i64 qa, .int .i64 qb, .int .i64 qc, .int .i64 qd, .int .i64 qe, .int .i64 qf, .int .i64 qg, .int .i64 qx, .int .i64 qy] 57)).alloc (.cells #[.int .i64 0, .int .i64 0, .int .i64 0, .int .i64 0, .int .i64 0, .int .i64 0, .int .i64 0, .int .i64 0, .int .i64 0, .int .i64 0, .int .i64 0, .int .i64 0, .int .i64 0, .int .i64 0, .int .i64 0, .int .i64 0, .int .i64 0, .int .i64 0] 57))
  rw [hg] at G
  have HG := Lib.hid G
  have A0 : Hid (Blk ((w.alloc (.cells #[.int .i64 1, .int .i64 3, .int .i64 pi, .int .i64 px, .int .i64 py, .int .i64 si, .int .i64 sl, .int .i64 sh, .int .i64 qk, .int .i64 qa, .int .i64 qb, .int .i64 qc, .int .i64 qd, .int .i64 qe, .int .i64 qf, .int .i64 qg, .int .i64 qx, .int .i64 qy] 57)).alloc (.cells #[.int .i64 0, .int .i64 0, .int .i64 0, .int .i64 0, .int .i64 0, .int .i64 0, .int .i64 0, .int .i64 0, .int .i64 0, .int .i64 0, .int .i64 0, .int .i64 0, .int .i64 0, .int .i64 0, .int .i64 0, .int .i64 0, .int .i64 0, .int .i64 0] 57)) w.heap.size 57 #[.int .i64 1, .int .i64 3, .int .i64 pi, .int .i64 px, .int .i64 py, .int .i64 si, .int .i64 sl, .int .i64 sh, .int .i64 qk, .int .i64 qa, .int .i64 qb, .int .i64 qc, .int .i64 qd, .int .i64 qe, .int .i64 qf, .int .i64 qg, .int .i64 qx, .int .i64 qy]) := Lib.hid ((Blk.new w 57 _).alloc _)
  have R0 : Hid (Blk ((w.alloc (.cells #[.int .i64 1, .int .i64 3, .int .i64 pi, .int .i64 px, .int .i64 py, .int .i64 si, .int .i64 sl, .int .i64 sh, .int .i64 qk, .int .i64 qa, .int .i64 qb, .int .i64 qc, .int .i64 qd, .int .i64 qe, .int .i64 qf, .int .i64 qg, .int .i64 qx, .int .i64 qy] 57)).alloc (.cells #[.int .i64 0, .int .i64 0, .int .i64 0, .int .i64 0, .int .i64 0, .int .i64 0, .int .i64 0, .int .i64 0, .int .i64 0, .int .i64 0, .int .i64 0, .int .i64 0, .int .i64 0, .int .i64 0, .int .i64 0, .int .i64 0, .int .i64 0, .int .i64 0] 57)) (w.heap.size + 1) 57 #[.int .i64 0, .int .i64 0, .int .i64 0, .int .i64 0, .int .i64 0, .int .i64 0, .int .i64 0, .int .i64 0, .int .i64 0, .int .i64 0, .int .i64 0, .int .i64 0, .int .i64 0, .int .i64 0, .int .i64 0, .int .i64 0, .int .i64 0, .int .i64 0]) := Lib.hid (by
    have h := Blk.new (w.alloc (.cells #[.int .i64 1, .int .i64 3, .int .i64 pi, .int .i64 px, .int .i64 py, .int .i64 si, .int .i64 sl, .int .i64 sh, .int .i64 qk, .int .i64 qa, .int .i64 qb, .int .i64 qc, .int .i64 qd, .int .i64 qe, .int .i64 qf, .int .i64 qg, .int .i64 qx, .int .i64 qy] 57)) 57 #[.int .i64 0, .int .i64 0, .int .i64 0, .int .i64 0, .int .i64 0, .int .i64 0, .int .i64 0, .int .i64 0, .int .i64 0, .int .i64 0, .int .i64 0, .int .i64 0, .int .i64 0, .int .i64 0, .int .i64 0, .int .i64 0, .int .i64 0, .int .i64 0]
    have e : (w.alloc (.cells #[.int .i64 1, .int .i64 3, .int .i64 pi, .int .i64 px, .int .i64 py, .int .i64 si, .int .i64 sl, .int .i64 sh, .int .i64 qk, .int .i64 qa, .int .i64 qb, .int .i64 qc, .int .i64 qd, .int .i64 qe, .int .i64 qf, .int .i64 qg, .int .i64 qx, .int .i64 qy] 57)).heap.size = w.heap.size + 1 := by simp
    rw [e] at h
    exact h)
  have KB : Hid (Below w.heap.size w ((w.alloc (.cells #[.int .i64 1, .int .i64 3, .int .i64 pi, .int .i64 px, .int .i64 py, .int .i64 si, .int .i64 sl, .int .i64 sh, .int .i64 qk, .int .i64 qa, .int .i64 qb, .int .i64 qc, .int .i64 qd, .int .i64 qe, .int .i64 qf, .int .i64 qg, .int .i64 qx, .int .i64 qy] 57)).alloc (.cells #[.int .i64 0, .int .i64 0, .int .i64 0, .int .i64 0, .int .i64 0, .int .i64 0, .int .i64 0, .int .i64 0, .int .i64 0, .int .i64 0, .int .i64 0, .int .i64 0, .int .i64 0, .int .i64 0, .int .i64 0, .int .i64 0, .int .i64 0, .int .i64 0] 57))) := Lib.hid (((Below.refl _ _).alloc (Nat.le_refl _) _).alloc (by simp) _)
  clear G hg
  go_enter Try.func32, Try.ntmps32
  go_wp2_with (first | (refine wpList_load_blk rfl 57 (.tmp 1) rfl 0 rfl A0.out 18 [.int .i64 1, .int .i64 3, .int .i64 pi, .int .i64 px, .int .i64 py, .int .i64 si, .int .i64 sl, .int .i64 sh, .int .i64 qk, .int .i64 qa, .int .i64 qb, .int .i64 qc, .int .i64 qd, .int .i64 qe, .int .i64 qf, .int .i64 qg, .int .i64 qx, .int .i64 qy] rfl _ Try.underlying57 rfl (by kernel_rfl) ?_) | fail)
  refine (HG.out).mono ?_
  rintro e v1 ⟨rfl, hb1⟩
  have HA := Lib.hid (A0.out.below hb1 A0.out.lt)
  have HR := Lib.hid (R0.out.below hb1 R0.out.lt)
  have HK := Lib.hid (KB.out.trans (hb1.mono KB.out.size))
  have hsz : w.heap.size + 1 < v1.heap.size := HR.out.lt
  clear hb1
  have c0 : v1.cell? ⟨w.heap.size, 0, none⟩ = some (.int .i64 1) := by rw [HA.out.cell]; rfl
  have c1 : v1.cell? ⟨w.heap.size, 1, none⟩ = some (.int .i64 3) := by rw [HA.out.cell]; rfl
  have C0 : Hid (Blk (v1.alloc (.cells #[.int .i64 0, .int .i64 0, .int .i64 0, .int .i64 0, .int .i64 0, .int .i64 0, .int .i64 0] 55)) v1.heap.size 55 #[.int .i64 0, .int .i64 0, .int .i64 0, .int .i64 0, .int .i64 0, .int .i64 0, .int .i64 0]) := Lib.hid (Blk.new v1 _ _)
  go_wp2_with (first
    | (refine wpList_store_blk rfl 55 (.tmp 3) (.tmp 20) rfl 0 [.int .i64 3, .int .i64 0, .int .i64 0, .int .i64 0, .int .i64 0, .int .i64 0, .int .i64 0] rfl rfl C0.out (Nat.le_of_ble_eq_true rfl) #[.int .i64 3, .int .i64 0, .int .i64 0, .int .i64 0, .int .i64 0, .int .i64 0, .int .i64 0] rfl (by kernel_rfl) rfl ?_
       intro v2 hb2 ho2
       have hz0 : (v1.alloc (.cells #[.int .i64 0, .int .i64 0, .int .i64 0, .int .i64 0, .int .i64 0, .int .i64 0, .int .i64 0] 55)).heap.size = v1.heap.size + 1 := by simp
       have HC := Lib.hid hb2
       have oA : Only (fun i => i = v1.heap.size) v1 v2 := ((Only.refl _ v1).alloc _).trans ho2 (fun _ _ h => h)
       have HA2 := Lib.hid (oA.blk HA.out (fun e => by have := HA.out.lt; omega))
       have HR2 := Lib.hid (oA.blk HR.out (fun e => by have := HR.out.lt; omega))
       have HK2 := Lib.hid (HK.out.trans (oA.below HK.out.size (fun i hi e => by have := HK.out.size; omega)))
       have n1 : w.heap.size < v1.heap.size := HA.out.lt
       have n2 : w.heap.size + 1 < v1.heap.size := HR.out.lt
       have x0 : v2.cell? ⟨w.heap.size, 0, none⟩ = some (.int .i64 1) := by rw [HA2.out.cell]; rfl
       have x1 : v2.cell? ⟨w.heap.size, 1, none⟩ = some (.int .i64 3) := by rw [HA2.out.cell]; rfl
       have y0 : v2.cell? ⟨v1.heap.size, 0, none⟩ = some (.int .i64 3) := by rw [HC.out.cell]; rfl
       clear hb2 ho2 oA hz0 c0 c1)
    | (refine wpList_load_blk rfl 53 (.tmp 40) rfl 5 rfl HA2.out 3 [.int .i64 si, .int .i64 sl, .int .i64 sh] rfl _ Try.underlying53 rfl (by kernel_rfl) ?_)
    | (refine wpList_store_blk rfl 53 (.tmp 42) (.tmp 41) rfl 4 [.int .i64 si, .int .i64 sl, .int .i64 sh] rfl rfl HC.out (Nat.le_of_ble_eq_true rfl) #[.int .i64 3, .int .i64 0, .int .i64 0, .int .i64 0, .int .i64 si, .int .i64 sl, .int .i64 sh] rfl (by kernel_rfl) rfl ?_
       intro v3 hb3 ho3
       have HC3 := Lib.hid hb3
       have HR3 := Lib.hid (ho3.blk HR2.out (fun e => by omega))
       have HA3 := Lib.hid (ho3.blk HA2.out (fun e => by omega))
       have HK3 := Lib.hid (HK2.out.trans (ho3.below HK2.out.size (fun i hi e => by omega)))
       have u0 : v3.cell? ⟨w.heap.size, 0, none⟩ = some (.int .i64 1) := by rw [HA3.out.cell]; rfl
       clear hb3 ho3)
    | (refine wpList_load_blk rfl 55 (.tmp 3) rfl 0 rfl HC3.out 7 [.int .i64 3, .int .i64 0, .int .i64 0, .int .i64 0, .int .i64 si, .int .i64 sl, .int .i64 sh] rfl _ Try.underlying55 rfl (by kernel_rfl) ?_)
    | (refine wpList_store_blk rfl 57 (.tmp 2) (.tmp 54) rfl 0 [.int .i64 1, .int .i64 3, .int .i64 0, .int .i64 0, .int .i64 0, .int .i64 si, .int .i64 sl, .int .i64 sh, .int .i64 0, .int .i64 0, .int .i64 0, .int .i64 0, .int .i64 0, .int .i64 0, .int .i64 0, .int .i64 0, .int .i64 0, .int .i64 0] rfl rfl HR3.out (Nat.le_of_ble_eq_true rfl) #[.int .i64 1, .int .i64 3, .int .i64 0, .int .i64 0, .int .i64 0, .int .i64 si, .int .i64 sl, .int .i64 sh, .int .i64 0, .int .i64 0, .int .i64 0, .int .i64 0, .int .i64 0, .int .i64 0, .int .i64 0, .int .i64 0, .int .i64 0, .int .i64 0] rfl (by kernel_rfl) rfl ?_
       intro v4 hb4 ho4
       have HR4 := Lib.hid hb4
       have HK4 := Lib.hid (HK3.out.trans (ho4.below HK3.out.size (fun i hi e => by omega)))
       clear hb4 ho4)
    | fail)
  exact bodyPost_ret (v := _) (results_blk rfl _ HR4.out _ rfl Try.underlying57 rfl (by kernel_rfl)) rfl ⟨rfl, HK4.out⟩
set_option maxRecDepth 100000 in
set_option maxHeartbeats 8000000 in
theorem only_4 (pi px py si sl sh qk qa qb qc qd qe qf qg qx qy : Int) (w : World) (hg : Rq.good ⟨1, 4, pi, px, py, si, sl, sh, ⟨qk, qa, qb, qc, qd, qe, qf, qg, qx, qy⟩⟩ = true) :
    Calls Try.prog 32 #[.agg #[.int .i64 1, .int .i64 4, .int .i64 pi, .int .i64 px, .int .i64 py, .int .i64 si, .int .i64 sl, .int .i64 sh, .int .i64 qk, .int .i64 qa, .int .i64 qb, .int .i64 qc, .int .i64 qd, .int .i64 qe, .int .i64 qf, .int .i64 qg, .int .i64 qx, .int .i64 qy]] w fun e w' => e = .returned (.agg #[.int .i64 1, .int .i64 4, .int .i64 0, .int .i64 0, .int .i64 0, .int .i64 si, .int .i64 0, .int .i64 0, .int .i64 0, .int .i64 0, .int .i64 0, .int .i64 0, .int .i64 0, .int .i64 0, .int .i64 0, .int .i64 0, .int .i64 0, .int .i64 0]) ∧ Below w.heap.size w w' := by
  have G := good_any 1 4 pi px py si sl sh qk qa qb qc qd qe qf qg qx qy ((w.alloc (.cells #[.int .i64 1, .int .i64 4, .int .i64 pi, .int .i64 px, .int .i64 py, .int .i64 si, .int .i64 sl, .int .i64 sh, .int .i64 qk, .int .i64 qa, .int .i64 qb, .int .i64 qc, .int .i64 qd, .int .i64 qe, .int .i64 qf, .int .i64 qg, .int .i64 qx, .int .i64 qy] 57)).alloc (.cells #[.int .i64 0, .int .i64 0, .int .i64 0, .int .i64 0, .int .i64 0, .int .i64 0, .int .i64 0, .int .i64 0, .int .i64 0, .int .i64 0, .int .i64 0, .int .i64 0, .int .i64 0, .int .i64 0, .int .i64 0, .int .i64 0, .int .i64 0, .int .i64 0] 57))
  rw [hg] at G
  have HG := Lib.hid G
  have A0 : Hid (Blk ((w.alloc (.cells #[.int .i64 1, .int .i64 4, .int .i64 pi, .int .i64 px, .int .i64 py, .int .i64 si, .int .i64 sl, .int .i64 sh, .int .i64 qk, .int .i64 qa, .int .i64 qb, .int .i64 qc, .int .i64 qd, .int .i64 qe, .int .i64 qf, .int .i64 qg, .int .i64 qx, .int .i64 qy] 57)).alloc (.cells #[.int .i64 0, .int .i64 0, .int .i64 0, .int .i64 0, .int .i64 0, .int .i64 0, .int .i64 0, .int .i64 0, .int .i64 0, .int .i64 0, .int .i64 0, .int .i64 0, .int .i64 0, .int .i64 0, .int .i64 0, .int .i64 0, .int .i64 0, .int .i64 0] 57)) w.heap.size 57 #[.int .i64 1, .int .i64 4, .int .i64 pi, .int .i64 px, .int .i64 py, .int .i64 si, .int .i64 sl, .int .i64 sh, .int .i64 qk, .int .i64 qa, .int .i64 qb, .int .i64 qc, .int .i64 qd, .int .i64 qe, .int .i64 qf, .int .i64 qg, .int .i64 qx, .int .i64 qy]) := Lib.hid ((Blk.new w 57 _).alloc _)
  have R0 : Hid (Blk ((w.alloc (.cells #[.int .i64 1, .int .i64 4, .int .i64 pi, .int .i64 px, .int .i64 py, .int .i64 si, .int .i64 sl, .int .i64 sh, .int .i64 qk, .int .i64 qa, .int .i64 qb, .int .i64 qc, .int .i64 qd, .int .i64 qe, .int .i64 qf, .int .i64 qg, .int .i64 qx, .int .i64 qy] 57)).alloc (.cells #[.int .i64 0, .int .i64 0, .int .i64 0, .int .i64 0, .int .i64 0, .int .i64 0, .int .i64 0, .int .i64 0, .int .i64 0, .int .i64 0, .int .i64 0, .int .i64 0, .int .i64 0, .int .i64 0, .int .i64 0, .int .i64 0, .int .i64 0, .int .i64 0] 57)) (w.heap.size + 1) 57 #[.int .i64 0, .int .i64 0, .int .i64 0, .int .i64 0, .int .i64 0, .int .i64 0, .int .i64 0, .int .i64 0, .int .i64 0, .int .i64 0, .int .i64 0, .int .i64 0, .int .i64 0, .int .i64 0, .int .i64 0, .int .i64 0, .int .i64 0, .int .i64 0]) := Lib.hid (by
    have h := Blk.new (w.alloc (.cells #[.int .i64 1, .int .i64 4, .int .i64 pi, .int .i64 px, .int .i64 py, .int .i64 si, .int .i64 sl, .int .i64 sh, .int .i64 qk, .int .i64 qa, .int .i64 qb, .int .i64 qc, .int .i64 qd, .int .i64 qe, .int .i64 qf, .int .i64 qg, .int .i64 qx, .int .i64 qy] 57)) 57 #[.int .i64 0, .int .i64 0, .int .i64 0, .int .i64 0, .int .i64 0, .int .i64 0, .int .i64 0, .int .i64 0, .int .i64 0, .int .i64 0, .int .i64 0, .int .i64 0, .int .i64 0, .int .i64 0, .int .i64 0, .int .i64 0, .int .i64 0, .int .i64 0]
    have e : (w.alloc (.cells #[.int .i64 1, .int .i64 4, .int .i64 pi, .int .i64 px, .int .i64 py, .int .i64 si, .int .i64 sl, .int .i64 sh, .int .i64 qk, .int .i64 qa, .int .i64 qb, .int .i64 qc, .int .i64 qd, .int .i64 qe, .int .i64 qf, .int .i64 qg, .int .i64 qx, .int .i64 qy] 57)).heap.size = w.heap.size + 1 := by simp
    rw [e] at h
    exact h)
  have KB : Hid (Below w.heap.size w ((w.alloc (.cells #[.int .i64 1, .int .i64 4, .int .i64 pi, .int .i64 px, .int .i64 py, .int .i64 si, .int .i64 sl, .int .i64 sh, .int .i64 qk, .int .i64 qa, .int .i64 qb, .int .i64 qc, .int .i64 qd, .int .i64 qe, .int .i64 qf, .int .i64 qg, .int .i64 qx, .int .i64 qy] 57)).alloc (.cells #[.int .i64 0, .int .i64 0, .int .i64 0, .int .i64 0, .int .i64 0, .int .i64 0, .int .i64 0, .int .i64 0, .int .i64 0, .int .i64 0, .int .i64 0, .int .i64 0, .int .i64 0, .int .i64 0, .int .i64 0, .int .i64 0, .int .i64 0, .int .i64 0] 57))) := Lib.hid (((Below.refl _ _).alloc (Nat.le_refl _) _).alloc (by simp) _)
  clear G hg
  go_enter Try.func32, Try.ntmps32
  go_wp2_with (first | (refine wpList_load_blk rfl 57 (.tmp 1) rfl 0 rfl A0.out 18 [.int .i64 1, .int .i64 4, .int .i64 pi, .int .i64 px, .int .i64 py, .int .i64 si, .int .i64 sl, .int .i64 sh, .int .i64 qk, .int .i64 qa, .int .i64 qb, .int .i64 qc, .int .i64 qd, .int .i64 qe, .int .i64 qf, .int .i64 qg, .int .i64 qx, .int .i64 qy] rfl _ Try.underlying57 rfl (by kernel_rfl) ?_) | fail)
  refine (HG.out).mono ?_
  rintro e v1 ⟨rfl, hb1⟩
  have HA := Lib.hid (A0.out.below hb1 A0.out.lt)
  have HR := Lib.hid (R0.out.below hb1 R0.out.lt)
  have HK := Lib.hid (KB.out.trans (hb1.mono KB.out.size))
  have hsz : w.heap.size + 1 < v1.heap.size := HR.out.lt
  clear hb1
  have c0 : v1.cell? ⟨w.heap.size, 0, none⟩ = some (.int .i64 1) := by rw [HA.out.cell]; rfl
  have c1 : v1.cell? ⟨w.heap.size, 1, none⟩ = some (.int .i64 4) := by rw [HA.out.cell]; rfl
  have C0 : Hid (Blk (v1.alloc (.cells #[.int .i64 0, .int .i64 0, .int .i64 0, .int .i64 0, .int .i64 0, .int .i64 0, .int .i64 0] 55)) v1.heap.size 55 #[.int .i64 0, .int .i64 0, .int .i64 0, .int .i64 0, .int .i64 0, .int .i64 0, .int .i64 0]) := Lib.hid (Blk.new v1 _ _)
  go_wp2_with (first
    | (refine wpList_store_blk rfl 55 (.tmp 3) (.tmp 20) rfl 0 [.int .i64 4, .int .i64 0, .int .i64 0, .int .i64 0, .int .i64 0, .int .i64 0, .int .i64 0] rfl rfl C0.out (Nat.le_of_ble_eq_true rfl) #[.int .i64 4, .int .i64 0, .int .i64 0, .int .i64 0, .int .i64 0, .int .i64 0, .int .i64 0] rfl (by kernel_rfl) rfl ?_
       intro v2 hb2 ho2
       have hz0 : (v1.alloc (.cells #[.int .i64 0, .int .i64 0, .int .i64 0, .int .i64 0, .int .i64 0, .int .i64 0, .int .i64 0] 55)).heap.size = v1.heap.size + 1 := by simp
       have HC := Lib.hid hb2
       have oA : Only (fun i => i = v1.heap.size) v1 v2 := ((Only.refl _ v1).alloc _).trans ho2 (fun _ _ h => h)
       have HA2 := Lib.hid (oA.blk HA.out (fun e => by have := HA.out.lt; omega))
       have HR2 := Lib.hid (oA.blk HR.out (fun e => by have := HR.out.lt; omega))
       have HK2 := Lib.hid (HK.out.trans (oA.below HK.out.size (fun i hi e => by have := HK.out.size; omega)))
       have n1 : w.heap.size < v1.heap.size := HA.out.lt
       have n2 : w.heap.size + 1 < v1.heap.size := HR.out.lt
       have x0 : v2.cell? ⟨w.heap.size, 0, none⟩ = some (.int .i64 1) := by rw [HA2.out.cell]; rfl
       have x1 : v2.cell? ⟨w.heap.size, 1, none⟩ = some (.int .i64 4) := by rw [HA2.out.cell]; rfl
       have y0 : v2.cell? ⟨v1.heap.size, 0, none⟩ = some (.int .i64 4) := by rw [HC.out.cell]; rfl
       have x2 : v2.cell? ⟨w.heap.size, 5, none⟩ = some (.int .i64 si) := by rw [HA2.out.cell]; rfl
       have y1 : v2.cell? ⟨v1.heap.size, 4, none⟩ = some (.int .i64 0) := by rw [HC.out.cell]; rfl
       have yf : v2.frozen? ⟨v1.heap.size, 4, none⟩ = false := HC.out.frozen 4
       have HC3 : Hid (Blk (v2.setCell ⟨v1.heap.size, 4, none⟩ (.int .i64 si)) v1.heap.size 55 #[.int .i64 4, .int .i64 0, .int .i64 0, .int .i64 0, .int .i64 si, .int .i64 0, .int .i64 0]) := Lib.hid (HC.out.set_ 4 _)
       have o3 : Only (fun i => i = v1.heap.size) v2 (v2.setCell ⟨v1.heap.size, 4, none⟩ (.int .i64 si)) := (Only.refl (fun i => i = v1.heap.size) v2).setCell (p := ⟨v1.heap.size, 4, none⟩) (.inr rfl) _
       have HR3 := Lib.hid (o3.blk HR2.out (fun e => by omega))
       have HK3 := Lib.hid (HK2.out.trans (o3.below HK2.out.size (fun i hi e => by omega)))
       have m1 : ¬ w.heap.size = v1.heap.size := by omega
       clear o3
       clear hb2 ho2 oA hz0 c0 c1)
    | (refine wpList_load_blk rfl 55 (.tmp 3) rfl 0 rfl HC3.out 7 [.int .i64 4, .int .i64 0, .int .i64 0, .int .i64 0, .int .i64 si, .int .i64 0, .int .i64 0] rfl _ Try.underlying55 rfl (by kernel_rfl) ?_)
    | (refine wpList_store_blk rfl 57 (.tmp 2) (.tmp 54) rfl 0 [.int .i64 1, .int .i64 4, .int .i64 0, .int .i64 0, .int .i64 0, .int .i64 si, .int .i64 0, .int .i64 0, .int .i64 0, .int .i64 0, .int .i64 0, .int .i64 0, .int .i64 0, .int .i64 0, .int .i64 0, .int .i64 0, .int .i64 0, .int .i64 0] rfl rfl HR3.out (Nat.le_of_ble_eq_true rfl) #[.int .i64 1, .int .i64 4, .int .i64 0, .int .i64 0, .int .i64 0, .int .i64 si, .int .i64 0, .int .i64 0, .int .i64 0, .int .i64 0, .int .i64 0, .int .i64 0, .int .i64 0, .int .i64 0, .int .i64 0, .int .i64 0, .int .i64 0, .int .i64 0] rfl (by kernel_rfl) rfl ?_
       intro v4 hb4 ho4
       have HR4 := Lib.hid hb4
       have HK4 := Lib.hid (HK3.out.trans (ho4.below HK3.out.size (fun i hi e => by omega)))
       clear hb4 ho4)
    | fail)
  exact bodyPost_ret (v := _) (results_blk rfl _ HR4.out _ rfl Try.underlying57 rfl (by kernel_rfl)) rfl ⟨rfl, HK4.out⟩
set_option maxRecDepth 100000 in
set_option maxHeartbeats 8000000 in
theorem only_q (ck pi px py si sl sh qk qa qb qc qd qe qf qg qx qy : Int) (w : World) (hg : Rq.good ⟨2, ck, pi, px, py, si, sl, sh, ⟨qk, qa, qb, qc, qd, qe, qf, qg, qx, qy⟩⟩ = true) :
    Calls Try.prog 32 #[.agg #[.int .i64 2, .int .i64 ck, .int .i64 pi, .int .i64 px, .int .i64 py, .int .i64 si, .int .i64 sl, .int .i64 sh, .int .i64 qk, .int .i64 qa, .int .i64 qb, .int .i64 qc, .int .i64 qd, .int .i64 qe, .int .i64 qf, .int .i64 qg, .int .i64 qx, .int .i64 qy]] w fun e w' => e = .returned (.agg #[.int .i64 2, .int .i64 0, .int .i64 0, .int .i64 0, .int .i64 0, .int .i64 0, .int .i64 0, .int .i64 0, .int .i64 (Qr.only ⟨qk, qa, qb, qc, qd, qe, qf, qg, qx, qy⟩).qk, .int .i64 (Qr.only ⟨qk, qa, qb, qc, qd, qe, qf, qg, qx, qy⟩).b1, .int .i64 (Qr.only ⟨qk, qa, qb, qc, qd, qe, qf, qg, qx, qy⟩).b2, .int .i64 (Qr.only ⟨qk, qa, qb, qc, qd, qe, qf, qg, qx, qy⟩).b3, .int .i64 (Qr.only ⟨qk, qa, qb, qc, qd, qe, qf, qg, qx, qy⟩).b4, .int .i64 (Qr.only ⟨qk, qa, qb, qc, qd, qe, qf, qg, qx, qy⟩).w1, .int .i64 (Qr.only ⟨qk, qa, qb, qc, qd, qe, qf, qg, qx, qy⟩).w2, .int .i64 (Qr.only ⟨qk, qa, qb, qc, qd, qe, qf, qg, qx, qy⟩).w3, .int .i64 (Qr.only ⟨qk, qa, qb, qc, qd, qe, qf, qg, qx, qy⟩).x, .int .i64 (Qr.only ⟨qk, qa, qb, qc, qd, qe, qf, qg, qx, qy⟩).h]) ∧ Below w.heap.size w w' := by
  have G := good_any 2 ck pi px py si sl sh qk qa qb qc qd qe qf qg qx qy ((w.alloc (.cells #[.int .i64 2, .int .i64 ck, .int .i64 pi, .int .i64 px, .int .i64 py, .int .i64 si, .int .i64 sl, .int .i64 sh, .int .i64 qk, .int .i64 qa, .int .i64 qb, .int .i64 qc, .int .i64 qd, .int .i64 qe, .int .i64 qf, .int .i64 qg, .int .i64 qx, .int .i64 qy] 57)).alloc (.cells #[.int .i64 0, .int .i64 0, .int .i64 0, .int .i64 0, .int .i64 0, .int .i64 0, .int .i64 0, .int .i64 0, .int .i64 0, .int .i64 0, .int .i64 0, .int .i64 0, .int .i64 0, .int .i64 0, .int .i64 0, .int .i64 0, .int .i64 0, .int .i64 0] 57))
  rw [hg] at G
  have HG := Lib.hid G
  have A0 : Hid (Blk ((w.alloc (.cells #[.int .i64 2, .int .i64 ck, .int .i64 pi, .int .i64 px, .int .i64 py, .int .i64 si, .int .i64 sl, .int .i64 sh, .int .i64 qk, .int .i64 qa, .int .i64 qb, .int .i64 qc, .int .i64 qd, .int .i64 qe, .int .i64 qf, .int .i64 qg, .int .i64 qx, .int .i64 qy] 57)).alloc (.cells #[.int .i64 0, .int .i64 0, .int .i64 0, .int .i64 0, .int .i64 0, .int .i64 0, .int .i64 0, .int .i64 0, .int .i64 0, .int .i64 0, .int .i64 0, .int .i64 0, .int .i64 0, .int .i64 0, .int .i64 0, .int .i64 0, .int .i64 0, .int .i64 0] 57)) w.heap.size 57 #[.int .i64 2, .int .i64 ck, .int .i64 pi, .int .i64 px, .int .i64 py, .int .i64 si, .int .i64 sl, .int .i64 sh, .int .i64 qk, .int .i64 qa, .int .i64 qb, .int .i64 qc, .int .i64 qd, .int .i64 qe, .int .i64 qf, .int .i64 qg, .int .i64 qx, .int .i64 qy]) := Lib.hid ((Blk.new w 57 _).alloc _)
  have R0 : Hid (Blk ((w.alloc (.cells #[.int .i64 2, .int .i64 ck, .int .i64 pi, .int .i64 px, .int .i64 py, .int .i64 si, .int .i64 sl, .int .i64 sh, .int .i64 qk, .int .i64 qa, .int .i64 qb, .int .i64 qc, .int .i64 qd, .int .i64 qe, .int .i64 qf, .int .i64 qg, .int .i64 qx, .int .i64 qy] 57)).alloc (.cells #[.int .i64 0, .int .i64 0, .int .i64 0, .int .i64 0, .int .i64 0, .int .i64 0, .int .i64 0, .int .i64 0, .int .i64 0, .int .i64 0, .int .i64 0, .int .i64 0, .int .i64 0, .int .i64 0, .int .i64 0, .int .i64 0, .int .i64 0, .int .i64 0] 57)) (w.heap.size + 1) 57 #[.int .i64 0, .int .i64 0, .int .i64 0, .int .i64 0, .int .i64 0, .int .i64 0, .int .i64 0, .int .i64 0, .int .i64 0, .int .i64 0, .int .i64 0, .int .i64 0, .int .i64 0, .int .i64 0, .int .i64 0, .int .i64 0, .int .i64 0, .int .i64 0]) := Lib.hid (by
    have h := Blk.new (w.alloc (.cells #[.int .i64 2, .int .i64 ck, .int .i64 pi, .int .i64 px, .int .i64 py, .int .i64 si, .int .i64 sl, .int .i64 sh, .int .i64 qk, .int .i64 qa, .int .i64 qb, .int .i64 qc, .int .i64 qd, .int .i64 qe, .int .i64 qf, .int .i64 qg, .int .i64 qx, .int .i64 qy] 57)) 57 #[.int .i64 0, .int .i64 0, .int .i64 0, .int .i64 0, .int .i64 0, .int .i64 0, .int .i64 0, .int .i64 0, .int .i64 0, .int .i64 0, .int .i64 0, .int .i64 0, .int .i64 0, .int .i64 0, .int .i64 0, .int .i64 0, .int .i64 0, .int .i64 0]
    have e : (w.alloc (.cells #[.int .i64 2, .int .i64 ck, .int .i64 pi, .int .i64 px, .int .i64 py, .int .i64 si, .int .i64 sl, .int .i64 sh, .int .i64 qk, .int .i64 qa, .int .i64 qb, .int .i64 qc, .int .i64 qd, .int .i64 qe, .int .i64 qf, .int .i64 qg, .int .i64 qx, .int .i64 qy] 57)).heap.size = w.heap.size + 1 := by simp
    rw [e] at h
    exact h)
  have KB : Hid (Below w.heap.size w ((w.alloc (.cells #[.int .i64 2, .int .i64 ck, .int .i64 pi, .int .i64 px, .int .i64 py, .int .i64 si, .int .i64 sl, .int .i64 sh, .int .i64 qk, .int .i64 qa, .int .i64 qb, .int .i64 qc, .int .i64 qd, .int .i64 qe, .int .i64 qf, .int .i64 qg, .int .i64 qx, .int .i64 qy] 57)).alloc (.cells #[.int .i64 0, .int .i64 0, .int .i64 0, .int .i64 0, .int .i64 0, .int .i64 0, .int .i64 0, .int .i64 0, .int .i64 0, .int .i64 0, .int .i64 0, .int .i64 0, .int .i64 0, .int .i64 0, .int .i64 0, .int .i64 0, .int .i64 0, .int .i64 0] 57))) := Lib.hid (((Below.refl _ _).alloc (Nat.le_refl _) _).alloc (by simp) _)
  clear G hg
  go_enter Try.func32, Try.ntmps32
  go_wp2_with (first | (refine wpList_load_blk rfl 57 (.tmp 1) rfl 0 rfl A0.out 18 [.int .i64 2, .int .i64 ck, .int .i64 pi, .int .i64 px, .int .i64 py, .int .i64 si, .int .i64 sl, .int .i64 sh, .int .i64 qk, .int .i64 qa, .int .i64 qb, .int .i64 qc, .int .i64 qd, .int .i64 qe, .int .i64 qf, .int .i64 qg, .int .i64 qx, .int .i64 qy] rfl _ Try.underlying57 rfl (by kernel_rfl) ?_) | fail)
  refine (HG.out).mono ?_
  rintro e v1 ⟨rfl, hb1⟩
  have HA := Lib.hid (A0.out.below hb1 A0.out.lt)
  have HR := Lib.hid (R0.out.below hb1 R0.out.lt)
  have HK := Lib.hid (KB.out.trans (hb1.mono KB.out.size))
  have hsz : w.heap.size + 1 < v1.heap.size := HR.out.lt
  clear hb1
  have c0 : v1.cell? ⟨w.heap.size, 0, none⟩ = some (.int .i64 2) := by rw [HA.out.cell]; rfl
  go_wp2_with fail
  refine wp_region_noPanic ?_
  refine wp_region_held_drew (S := (fun w' => Blk w' w.heap.size 57 #[.int .i64 2, .int .i64 ck, .int .i64 pi, .int .i64 px, .int .i64 py, .int .i64 si, .int .i64 sl, .int .i64 sh, .int .i64 qk, .int .i64 qa, .int .i64 qb, .int .i64 qc, .int .i64 qd, .int .i64 qe, .int .i64 qf, .int .i64 qg, .int .i64 qx, .int .i64 qy] ∧ w'.cell? ⟨w.heap.size, 0, none⟩ = some (.int .i64 2))) (by kernel_rfl) ?_ (fun hHeld => ?_)
  · exact ⟨HA.out, c0⟩
  refine wpAnyH_take (i := 0) (oi := ⟨_, _, _, _, _, _⟩) (v := ?_) rfl (by kernel_rfl) (by kernel_rfl) (by kernel_rfl) (fun _ _ _ h => h) (Or.inl ⟨by rfl, ?_⟩) (by assumption) ?_
  rotate_left
  · intro w hSw; (try dsimp only at hSw); go_split_ands; go_simp; try with_reducible rfl
  try simp only [Act.put, List.setIfInBounds_toArray, List.set_cons_zero, List.set_cons_succ]
  refine wpAnyH_take (i := 1) (oi := ⟨_, _, _, _, _, _⟩) (v := ?_) rfl (by kernel_rfl) (by kernel_rfl) (by kernel_rfl) (fun _ _ _ h => h) (Or.inl ⟨by rfl, ?_⟩) (by assumption) ?_
  rotate_left
  · intro w hSw; (try dsimp only at hSw); go_split_ands; go_simp; try with_reducible rfl
  try simp only [Act.put, List.setIfInBounds_toArray, List.set_cons_zero, List.set_cons_succ]
  refine wpAnyH_take (i := 2) (oi := ⟨_, _, _, _, _, _⟩) (v := ?_) rfl (by kernel_rfl) (by kernel_rfl) (by kernel_rfl) (fun _ _ _ h => h) (Or.inl ⟨by rfl, ?_⟩) (by assumption) ?_
  rotate_left
  · intro w hSw; (try dsimp only at hSw); go_split_ands; go_simp; try with_reducible rfl
  try simp only [Act.put, List.setIfInBounds_toArray, List.set_cons_zero, List.set_cons_succ]
  refine wpAnyH_take (i := 3) (oi := ⟨_, _, _, _, _, _⟩) (v := .agg #[.int .i64 qk, .int .i64 qa, .int .i64 qb, .int .i64 qc, .int .i64 qd, .int .i64 qe, .int .i64 qf, .int .i64 qg, .int .i64 qx, .int .i64 qy]) rfl (by kernel_rfl) (by kernel_rfl) (by kernel_rfl) (fun _ _ _ h => h) (yieldsIf_load_mid (by rfl) 27 (.tmp 13) rfl w.heap.size 8 rfl [.int .i64 qk, .int .i64 qa, .int .i64 qb, .int .i64 qc, .int .i64 qd, .int .i64 qe, .int .i64 qf, .int .i64 qg, .int .i64 qx, .int .i64 qy] _ (fun w h => range_of_blk h.1 8 10 _ rfl) Try.underlying27 rfl (by kernel_rfl)) (by assumption) ?_
  try simp only [Act.put, List.setIfInBounds_toArray, List.set_cons_zero, List.set_cons_succ]
  refine wpAnyH_ready (rs := [4]) (by kernel_rfl) (by simp) ?_
  refine AllReadyH.cons (o := ⟨_, _, _, _, _, _⟩) rfl (fun K hK => ?_) AllReadyH.nil
  go_simp
  go_at_call 28
  refine (ponly_any qk qa qb qc qd qe qf qg qx qy v1.drew).mono ?_
  rintro e v2 ⟨rfl, hb2⟩
  unfold Qr.v
  have bA : Blk v2 w.heap.size 57 #[.int .i64 2, .int .i64 ck, .int .i64 pi, .int .i64 px, .int .i64 py, .int .i64 si, .int .i64 sl, .int .i64 sh, .int .i64 qk, .int .i64 qa, .int .i64 qb, .int .i64 qc, .int .i64 qd, .int .i64 qe, .int .i64 qf, .int .i64 qg, .int .i64 qx, .int .i64 qy] := Blk.below (HA.out.drew) hb2 HA.out.lt
  have HR2 : Hid (Blk v2 (w.heap.size + 1) 57 #[.int .i64 0, .int .i64 0, .int .i64 0, .int .i64 0, .int .i64 0, .int .i64 0, .int .i64 0, .int .i64 0, .int .i64 0, .int .i64 0, .int .i64 0, .int .i64 0, .int .i64 0, .int .i64 0, .int .i64 0, .int .i64 0, .int .i64 0, .int .i64 0]) := Lib.hid (Blk.below (HR.out.drew) hb2 HR.out.lt)
  have HK2 : Hid (Below w.heap.size w v2) := Lib.hid (HK.out.trans (show Below w.heap.size v1 v2 from ⟨hb2.os, hb2.tape, hb2.output, hb2.size, fun i hi => hb2.block i (Nat.lt_of_lt_of_le hi HK.out.size)⟩))
  have cA : v2.cell? ⟨w.heap.size, 0, none⟩ = some (.int .i64 2) := by rw [bA.cell]; rfl
  clear hb2
  refine hK.out _ _ ?_ (fun hHeld => ?_)
  · first | exact ⟨bA, cA⟩ | exact ⟨bB, cB⟩
  clear hK K
  try simp only [Act.put, List.setIfInBounds_toArray, List.set_cons_zero, List.set_cons_succ]
  refine wpAnyH_take (i := 5) (oi := ⟨_, _, _, _, _, _⟩) (v := ?_) rfl (by kernel_rfl) (by kernel_rfl) (by kernel_rfl) (fun _ _ _ h => h) (Or.inl ⟨by rfl, ?_⟩) (by assumption) ?_
  rotate_left
  · intro w hSw; (try dsimp only at hSw); go_split_ands; go_simp; try with_reducible rfl
  try simp only [Act.put, List.setIfInBounds_toArray, List.set_cons_zero, List.set_cons_succ]
  refine wpAnyH_ready (rs := [6]) (by kernel_rfl) (by simp) ?_
  refine AllReadyH.cons (o := ⟨_, _, _, _, _, _⟩) rfl (fun K hK => ?_) AllReadyH.nil
  refine step_store_blk rfl 57 (.tmp 2) (.tmp 16) rfl 0 [.int .i64 2, .int .i64 0, .int .i64 0, .int .i64 0, .int .i64 0, .int .i64 0, .int .i64 0, .int .i64 0, .int .i64 (Qr.only ⟨qk, qa, qb, qc, qd, qe, qf, qg, qx, qy⟩).qk, .int .i64 (Qr.only ⟨qk, qa, qb, qc, qd, qe, qf, qg, qx, qy⟩).b1, .int .i64 (Qr.only ⟨qk, qa, qb, qc, qd, qe, qf, qg, qx, qy⟩).b2, .int .i64 (Qr.only ⟨qk, qa, qb, qc, qd, qe, qf, qg, qx, qy⟩).b3, .int .i64 (Qr.only ⟨qk, qa, qb, qc, qd, qe, qf, qg, qx, qy⟩).b4, .int .i64 (Qr.only ⟨qk, qa, qb, qc, qd, qe, qf, qg, qx, qy⟩).w1, .int .i64 (Qr.only ⟨qk, qa, qb, qc, qd, qe, qf, qg, qx, qy⟩).w2, .int .i64 (Qr.only ⟨qk, qa, qb, qc, qd, qe, qf, qg, qx, qy⟩).w3, .int .i64 (Qr.only ⟨qk, qa, qb, qc, qd, qe, qf, qg, qx, qy⟩).x, .int .i64 (Qr.only ⟨qk, qa, qb, qc, qd, qe, qf, qg, qx, qy⟩).h] rfl rfl HR2.out (Nat.le_of_ble_eq_true rfl) #[.int .i64 2, .int .i64 0, .int .i64 0, .int .i64 0, .int .i64 0, .int .i64 0, .int .i64 0, .int .i64 0, .int .i64 (Qr.only ⟨qk, qa, qb, qc, qd, qe, qf, qg, qx, qy⟩).qk, .int .i64 (Qr.only ⟨qk, qa, qb, qc, qd, qe, qf, qg, qx, qy⟩).b1, .int .i64 (Qr.only ⟨qk, qa, qb, qc, qd, qe, qf, qg, qx, qy⟩).b2, .int .i64 (Qr.only ⟨qk, qa, qb, qc, qd, qe, qf, qg, qx, qy⟩).b3, .int .i64 (Qr.only ⟨qk, qa, qb, qc, qd, qe, qf, qg, qx, qy⟩).b4, .int .i64 (Qr.only ⟨qk, qa, qb, qc, qd, qe, qf, qg, qx, qy⟩).w1, .int .i64 (Qr.only ⟨qk, qa, qb, qc, qd, qe, qf, qg, qx, qy⟩).w2, .int .i64 (Qr.only ⟨qk, qa, qb, qc, qd, qe, qf, qg, qx, qy⟩).w3, .int .i64 (Qr.only ⟨qk, qa, qb, qc, qd, qe, qf, qg, qx, qy⟩).x, .int .i64 (Qr.only ⟨qk, qa, qb, qc, qd, qe, qf, qg, qx, qy⟩).h] rfl (by kernel_rfl) rfl ?_
  intro v3 hb3 ho3
  have bB : Blk v3 w.heap.size 57 #[.int .i64 2, .int .i64 ck, .int .i64 pi, .int .i64 px, .int .i64 py, .int .i64 si, .int .i64 sl, .int .i64 sh, .int .i64 qk, .int .i64 qa, .int .i64 qb, .int .i64 qc, .int .i64 qd, .int .i64 qe, .int .i64 qf, .int .i64 qg, .int .i64 qx, .int .i64 qy] := ho3.blk bA (fun e => by omega)
  have cB : v3.cell? ⟨w.heap.size, 0, none⟩ = some (.int .i64 2) := by rw [bB.cell]; rfl
  have HR3 := Lib.hid hb3
  have HK3 := Lib.hid (HK2.out.trans (ho3.below HK2.out.size (fun i hi e => by omega)))
  clear hb3 ho3
  refine hK.out _ _ ?_ (fun hHeld => ?_)
  · first | exact ⟨bA, cA⟩ | exact ⟨bB, cB⟩
  clear hK K
  try simp only [Act.put, List.setIfInBounds_toArray, List.set_cons_zero, List.set_cons_succ]
  refine wpAnyH_done (by kernel_rfl) ?_ _
  refine NoPanic.normal ?_
  go_wp2_with fail
  exact bodyPost_ret (v := _) (results_blk rfl _ HR3.out _ rfl Try.underlying57 rfl (by kernel_rfl)) rfl ⟨rfl, HK3.out⟩
end Go.Proofs.Ytencgokpbfkeiaa
