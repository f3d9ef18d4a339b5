/- A pool of ints (layer 6): what its functions leave. -/
import Derived.Test.YtmmmhkpekaimeaaO
import Derived.Test.YtmmmhkpekaimeaaRows
import Derived.WalkKit
import Derived.Outline
import Derived.Deep.RegionHeld3
import Derived.Deep.DeepCutAuto
import Derived.Deep.QuietTactic
import Derived.BigQuiet
import Derived.Deep.AppendLies
import Derived.Laws.OwnMore
set_option linter.unusedVariables false
namespace Go.Proofs.Ytmmmhkpekaimeaa
open Go.ChangeShapes Go.WideShapes Go.ChangeAt Go.RowKit
theorem pint_info : (Try.prog.info? 3).map (fun i => (i.zero, i.size, i.bytes)) = some (some (.int .i64 0), 1, 8) := by kernel_rfl
theorem node_info : (Try.prog.info? 105).map (fun i => (i.zero, i.size, i.bytes)) = some (some (.agg #[.int .i64 0, .bool false]), 2, 16) := by kernel_rfl
/-- the cells of nodes, one after the other -/
def nv : List (Int × Bool) → List Value
  | [] => []
  | (a, t) :: l => .int .i64 a :: .bool t :: nv l
theorem nv_len : ∀ l, (nv l).length = l.length * 2
  | [] => rfl
  | (a, t) :: l => by simp only [nv, List.length_cons, nv_len l]; omega
theorem nv_append : ∀ l m, nv l ++ nv m = nv (l ++ m)
  | [], m => rfl
  | (a, t) :: l, m => by simp only [nv, List.cons_append, nv_append l m]
theorem own_shrink1 {w : World} {base : Nat} {e : TypeId} {b n c : Nat} {xs : List Value} (h : w.ownsRow base e 1 (.slice (some ⟨b, 0, none⟩) n c) n xs) (k : Nat) (hk : k ≤ n) :
    w.ownsRow base e 1 (.slice (some ⟨b, 0, none⟩) k c) k (xs.take k) := by
  obtain ⟨h1, h2⟩ := h
  rcases h2 with ⟨h0, _⟩ | ⟨g', cap', cur, hv, hg, hh, hn, hcap, hsz, htake⟩
  · cases h0
  · cases hv
    refine ⟨by rw [List.length_take, h1]; omega, .inr ⟨b, c, cur, rfl, hg, hh, by omega, hcap, hsz, ?_⟩⟩
    rw [← htake, List.take_take, Nat.mul_one, Nat.mul_one, Nat.min_eq_left hk]
theorem nv_one : ∀ {l : List (Int × Bool)}, ∀ u ∈ nv l, u.oneCell' = true
  | [], u, h => by simp [nv] at h
  | (a, t) :: l, u, h => by
      simp only [nv, List.mem_cons] at h
      rcases h with rfl | rfl | h
      · rfl
      · rfl
      · exact nv_one u h
/-- a pool at block g: how many at most, its nodes, those given back -/
def Pl (w : World) (base g : Nat) (most : Int) (x : Value) (n : Nat) (X : List (Int × Bool)) (y : Value) (m : Nat) (Y : List Int) : Prop :=
  Blk w g 103 #[.int .i64 most, x, y] ∧ w.ownsRow base 105 2 x n (nv X) ∧ w.ownsRow base 3 1 y m (iv Y) ∧ (∀ b, x.ownBlock = some b → y.ownBlock ≠ some b)
set_option maxHeartbeats 1000000 in
theorem pool_new (most : Int) (h : 1 ≤ most ∧ most ≤ 1048576) (w : World) :
    Calls Try.prog 26 #[.int .i64 most] w fun e w' => e = .returned (.tuple #[.pointer (some ⟨w.heap.size, 0, none⟩), .int .i64 0]) ∧ w' = w.alloc (.cells #[.int .i64 most, .slice none 0 0, .slice none 0 0] 103) := by
  obtain ⟨h1, h2⟩ := h
  go_enter Try.func26, Try.ntmps26
  go_wp2
  go_ret2
  exact ⟨rfl, rfl⟩
set_option maxHeartbeats 1000000 in
theorem pool_new_no (most : Int) (h : most < 1 ∨ 1048576 < most) (w : World) :
    Calls Try.prog 26 #[.int .i64 most] w fun e w' => e = .returned (.tuple #[.pointer none, .int .i64 1]) ∧ w = w' := by
  rcases h with h | h
  · go_enter Try.func26, Try.ntmps26
    go_wp2
    go_ret2
    exact ⟨rfl, rfl⟩
  · have h' : ¬ most < 1 := by omega
    go_enter Try.func26, Try.ntmps26
    go_wp2
    go_ret2
    exact ⟨rfl, rfl⟩
set_option maxHeartbeats 1000000 in
theorem pool_len_nil (w : World) : Calls Try.prog 29 #[.pointer none] w fun e w' => e = .returned (.int .i64 0) ∧ w = w' := by
  go_enter Try.func29, Try.ntmps29
  go_wp2
  go_ret
  exact ⟨rfl, rfl⟩
set_option maxHeartbeats 1000000 in
theorem pool_room_nil (w : World) : Calls Try.prog 31 #[.pointer none] w fun e w' => e = .returned (.int .i64 0) ∧ w = w' := by
  go_enter Try.func31, Try.ntmps31
  go_wp2
  go_ret
  exact ⟨rfl, rfl⟩
set_option maxHeartbeats 1000000 in
theorem pool_all_nil (w : World) : Calls Try.prog 32 #[.pointer none] w fun e w' => e = .returned (.slice none 0 0) ∧ w = w' := by
  go_enter Try.func32, Try.ntmps32
  go_wp2
  go_ret
  exact ⟨rfl, rfl⟩
set_option maxHeartbeats 1000000 in
theorem pool_reserve_nil (n : Int) (w : World) : Calls Try.prog 39 #[.pointer none, .int .i64 n] w fun e w' => e = .returned (.int .i64 1) ∧ w = w' := by
  go_enter Try.func39, Try.ntmps39
  go_wp2
  go_ret
  exact ⟨rfl, rfl⟩
set_option maxHeartbeats 1000000 in
theorem pool_clear_nil (w : World) : Calls Try.prog 37 #[.pointer none] w fun e w' => e = .returned (.tuple #[]) ∧ w = w' := by
  go_enter Try.func37, Try.ntmps37
  go_wp2
  go_end0
  exact ⟨rfl, rfl⟩
set_option maxHeartbeats 1000000 in
theorem pool_at_nil (i : Int) (f : Value) (w : World) : Calls Try.prog 64 #[.pointer none, .int .i64 i, f] w fun e w' => e = .returned (.int .i64 1) ∧ w = w' := by
  go_enter Try.func64, Try.ntmps64
  go_wp2
  go_ret
  exact ⟨rfl, rfl⟩
set_option maxHeartbeats 2000000 in
theorem pool_free_given (base g m c b : Nat) (most : Int) (x : Value) (n : Nat) (X : List (Int × Bool)) (Y : List Int) (w : World) (h : Pl w base g most x n X (.slice (some ⟨b, 0, none⟩) (m + 1) c) (m + 1) Y) (hn : m + 1 ≤ c ∧ c ≤ maxLen) :
    Calls Try.prog 69 #[.pointer (some ⟨g, 0, none⟩)] w fun e w' => e = .returned (.int .i64 (Y.getD m 0)) ∧ Pl w' base g most x n X (.slice (some ⟨b, 0, none⟩) m c) m (Y.take m) ∧ Only (fun k => k = g) w w' := by
  obtain ⟨hn1, hn2⟩ := hn
  unfold maxLen at hn2
  obtain ⟨hb, hx, hy, hxy⟩ := h
  have hl : Y.length = m + 1 := by have := hy.1; simpa [iv] using this
  have hc : w.cell? ⟨b, m, none⟩ = some (.int .i64 (Y.getD m 0)) := by rw [hy.cellAt m (by omega)]; exact iv_get (by omega)
  have h2 : w.cell? ⟨g, 2, none⟩ = some (.slice (some ⟨b, 0, none⟩) (m + 1) c) := by rw [hb.cell]; rfl
  have hf : w.frozen? ⟨g, 2, none⟩ = false := hb.frozen 2
  have HB := Lib.hid hb
  have HX := Lib.hid hx
  have HY := Lib.hid hy
  have HXY := Lib.hid hxy
  clear hb hx hy hxy
  generalize hX : Y.getD m 0 = i at *
  go_enter Try.func69, Try.ntmps69
  go_wp2_with fail
  go_ret
  have hO : Only (fun k => k = g) w (w.setCell ⟨g, 2, none⟩ (.slice (some ⟨b, 0, none⟩) m c)) := Only.setCell (S := fun k => k = g) (p := ⟨g, 2, none⟩) (Only.refl _ w) (.inr rfl) _
  refine ⟨rfl, ⟨HB.out.set_ 2 _, hO.own HX.out (fun k hk hkg => own_ne HX.out HB.out (by decide) (by rw [hk, hkg])), ?_, HXY.out⟩, hO⟩
  have h3 := own_shrink1 HY.out m (by omega)
  rw [iv_take] at h3
  exact hO.own h3 (fun k hk hkg => own_ne HY.out HB.out (by decide) (by cases hk; rw [← hkg]; rfl))
set_option maxRecDepth 100000 in
set_option maxHeartbeats 4000000 in
theorem pool_free_new (base g n : Nat) (most : Int) (x : Value) (A2 : Option Addr) (c2 : Nat) (X : List (Int × Bool)) (w : World) (h : Pl w base g most x n X (.slice A2 0 c2) 0 []) (hn : (n : Int) < most) (hm : most ≤ 1048576) (hbase : base ≤ w.heap.size) :
    Calls Try.prog 69 #[.pointer (some ⟨g, 0, none⟩)] w fun e w' => e = .returned (.int .i64 ((n : Int) + 1)) ∧ ∃ x', Pl w' base g most x' (n + 1) (X ++ [(0, false)]) (.slice A2 0 c2) 0 [] ∧ Only (fun k => k = g ∨ some k = x.ownBlock) w w' ∧ (x'.ownBlock = x.ownBlock ∨ ∀ b, x'.ownBlock = some b → w.heap.size ≤ b) := by
  obtain ⟨i0, hi0, hz0, hz1, hz2⟩ := info_parts node_info
  obtain ⟨hb, hx, hy, hxy⟩ := h
  obtain ⟨A1, c1, rfl, -⟩ := own_slice hx
  have h2 : w.cell? ⟨g, 2, none⟩ = some (.slice A2 0 c2) := by rw [hb.cell]; rfl
  have h1 : w.cell? ⟨g, 1, none⟩ = some (.slice A1 n c1) := by rw [hb.cell]; rfl
  have h0 : w.cell? ⟨g, 0, none⟩ = some (.int .i64 most) := by rw [hb.cell]; rfl
  have hf : w.frozen? ⟨g, 1, none⟩ = false := hb.frozen 1
  have hne : ((n : Int) == most) = false := by rw [beq_eq_false_iff_ne]; omega
  have hgl := hb.lt
  have HB := Lib.hid hb
  have HX := Lib.hid hx
  have HY := Lib.hid hy
  have HXY := Lib.hid hxy
  clear hb hx hy hxy
  go_enter Try.func69, Try.ntmps69
  go_wp2_with fail
  go_quiet (fail)
  have KO : ((w.drewN nq).alloc (.cells #[.int .i64 0, .bool false] 105)).ownsRow base 105 2 (.slice A1 n c1) n (nv X) := (((Only.refl (fun _ => False) w).drewN nq).alloc (.cells #[.int .i64 0, .bool false] 105)).own HX.out (fun _ _ h => h)
  have KB : Hid (Blk ((w.drewN nq).alloc (.cells #[.int .i64 0, .bool false] 105)) g 103 #[.int .i64 most, .slice A1 n c1, .slice A2 0 c2]) := Lib.hid ((((Only.refl (fun _ => False) w).drewN nq).alloc (.cells #[.int .i64 0, .bool false] 105)).blk HB.out (fun h => h))
  have KR : Reads ((w.drewN nq).alloc (.cells #[.int .i64 0, .bool false] 105)) ((w.drewN nq).alloc (.cells #[.int .i64 0, .bool false] 105)).heap.size 2 (some ⟨w.heap.size, 0, none⟩) 1 (nv [(0, false)]) := Reads.of_own (base := 0) (e := 105) (c := 1) (World.ownsRow_lit (size := 2) (e := 105) (w.drewN nq) #[.int .i64 0, .bool false] 1 (Nat.zero_le _) (by simp [maxLen]) rfl)
  have hsz : w.heap.size ≤ ((w.drewN nq).alloc (.cells #[.int .i64 0, .bool false] 105)).heap.size := (((Only.refl (fun _ => False) w).drewN nq).alloc (.cells #[.int .i64 0, .bool false] 105)).size
  have hOW : Only (fun b => b = g ∨ some b = (Value.slice A1 n c1).ownBlock) w ((w.drewN nq).alloc (.cells #[.int .i64 0, .bool false] 105)) := ((Only.refl _ w).drewN nq).alloc _
  have e1 : ((w.drewN nq).alloc (.cells #[.int .i64 0, .bool false] 105)).cell? ⟨g, 1, none⟩ = some (.slice A1 n c1) := by rw [KB.out.cell]; rfl
  have HN := Lib.hid (own_ne HX.out HB.out (by decide))
  have HSZ := Lib.hid hsz
  have HKO := Lib.hid KO
  have HKR := Lib.hid KR
  clear hsz KO KR
  go_wp2_with (first
    | (at_builtin
       refine wpList_append_any _ rfl (.tmp 45) (.tmp 47) _ rfl base 105 i0 _ 2 16 Try.underlying101 hi0 hz0 hz1 hz2 rfl (by omega) (.slice A1 n c1) n (nv X) rfl HKO.out _ _ 1 1 (nv [(0, false)]) rfl HKR.out nv_one (by simp only [maxLen]; omega) (by omega) (Nat.le_trans hbase HSZ.out) ?_
       intro v1 w1 hown1 hg1 hat1
       obtain ⟨A3, c3, rfl, hr2⟩ := own_slice hown1
       clear hr2
       have q1 : w1.cell? ⟨g, 1, none⟩ = some (.slice A1 n c1) := hg1.cell e1 (fun h => HN.out h.symm)
       have q2 : w1.frozen? ⟨g, 1, none⟩ = false := ((Only.of_grown (S := fun b => some b = (Value.slice A1 n c1).ownBlock) hg1 (fun _ h => h)).blk KB.out (fun h => HN.out h.symm)).frozen 1
       have q3 := Lib.hid hg1
       have q4 := Lib.hid hown1
       have q5 := Lib.hid hat1
       clear hg1 hown1 hat1)
    | fail)
  go_ret
  have hO : Only (fun b => b = g ∨ some b = (Value.slice A1 n c1).ownBlock) w w1 := hOW.trans (Only.of_grown (S := fun b => b = g ∨ some b = (Value.slice A1 n c1).ownBlock) q3.out (fun _ h => .inr h)) (fun _ _ h => h)
  have hO1 := Only.of_grown (S := fun b => some b = (Value.slice A1 n c1).ownBlock) q3.out (fun _ h => h)
  have hB1 : Blk w1 g 103 #[.int .i64 most, .slice A1 n c1, .slice A2 0 c2] := hO1.blk KB.out (fun h => HN.out h.symm)
  have hY1 : w1.ownsRow base 3 1 (.slice A2 0 c2) 0 (iv []) := hO.own HY.out (fun k hk h => by
    rcases h with h | h
    · exact own_ne HY.out HB.out (by decide) (by rw [hk, h])
    · exact HXY.out k h.symm hk)
  have hat : (Value.slice A3 (n + 1) c3).ownBlock = (Value.slice A1 n c1).ownBlock ∨ ∀ b, (Value.slice A3 (n + 1) c3).ownBlock = some b → w.heap.size ≤ b := by
    rcases q5.out with h | h
    · exact .inl h
    · exact .inr (fun b hb => by rw [h] at hb; cases hb; exact HSZ.out)
  have hS : Only (fun k => k = g) w1 (w1.setCell ⟨g, 1, none⟩ (.slice A3 (n + 1) c3)) := Only.setCell (S := fun k => k = g) (p := ⟨g, 1, none⟩) (Only.refl _ w1) (.inr rfl) _
  refine ⟨rfl, _, ⟨hB1.set_ 1 _, ?_, hS.own hY1 (fun k hk hkg => own_ne hY1 hB1 (by decide) (by rw [hk, hkg])), ?_⟩, hO.setCell (.inr (.inl rfl)) _, hat⟩
  · rw [← nv_append]
    exact hS.own q4.out (fun k hk hkg => own_ne q4.out hB1 (by decide) (by rw [hk, hkg]))
  · intro b hb1 hb2
    rcases hat with h | h
    · exact HXY.out b (by rw [← h, hb1]) hb2
    · have := h b hb1; have := (HY.out.lt b hb2).2; omega
end Go.Proofs.Ytmmmhkpekaimeaa
