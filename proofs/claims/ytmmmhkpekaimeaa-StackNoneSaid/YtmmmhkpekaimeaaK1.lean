/- A stack of ints (layer 10): what its functions leave. -/
import Derived.Test.YtmmmhkpekaimeaaO
import Derived.Test.YtmmmhkpekaimeaaRows
import Derived.WalkKit
import Derived.Outline
import Derived.Deep.RegionHeld3
import Derived.Deep.DeepCutAuto
import Derived.Deep.QuietTactic
import Derived.BigQuiet
set_option linter.unusedVariables false
namespace Go.Proofs.Ytmmmhkpekaimeaa
open Go.ChangeShapes Go.WideShapes Go.ChangeAt Go.RowKit
theorem int_info : (Try.prog.info? 3).map (fun i => (i.zero, i.size, i.bytes)) = some (some (.int .i64 0), 1, 8) := by kernel_rfl
theorem ret_int {k : IntKind} {a b : Int} (h : a = b) : Ending.returned (.int k a) = .returned (.int k b) := by rw [h]
set_option maxHeartbeats 1000000 in
theorem stk_len_nil (w : World) : Calls Try.prog 50 #[.pointer none] w fun e w' => e = .returned (.int .i64 0) ∧ w = w' := by
  go_enter Try.func50, Try.ntmps50
  go_wp2
  go_ret
  exact ⟨rfl, rfl⟩
set_option maxHeartbeats 1000000 in
theorem stk_len (g n c : Nat) (A : Option Addr) (u : Value) (w : World) (hb : Blk w g 113 #[u, .slice A n c]) :
    Calls Try.prog 50 #[.pointer (some ⟨g, 0, none⟩)] w fun e w' => e = .returned (.int .i64 n) ∧ w = w' := by
  have h1 : w.cell? ⟨g, 1, none⟩ = some (.slice A n c) := by rw [hb.cell]; rfl
  clear hb
  go_enter Try.func50, Try.ntmps50
  go_wp2
  go_ret
  exact ⟨rfl, rfl⟩
set_option maxHeartbeats 1000000 in
theorem stk_fits (most n : Int) (r : Bool) (hr : decide (n ≤ most) = r) (w : World) :
    Calls Try.prog 71 #[.agg #[.int .i64 most], .int .i64 n] w fun e w' => e = .returned (.bool r) ∧ Below w.heap.size w w' := by
  go_enter Try.func71, Try.ntmps71
  go_wp2
  go_ret
  exact ⟨rfl, (by repeat (first | with_reducible exact Below.refl _ _ | with_reducible assumption | with_reducible refine Below.setCell ?_ (by first | omega | (simp <;> omega)) _ | with_reducible refine below_drewN ?_ _ | with_reducible refine Below.drew ?_ | with_reducible refine Below.alloc ?_ (by first | omega | (simp <;> omega)) _))⟩
set_option maxHeartbeats 1000000 in
theorem stk_new (most : Int) (h : 1 ≤ most ∧ most ≤ 65536) (w : World) :
    Calls Try.prog 40 #[.int .i64 most] w fun e w' => e = .returned (.tuple #[.pointer (some ⟨w.heap.size, 0, none⟩), .int .i64 0]) ∧ w' = w.alloc (.cells #[.int .i64 most, .slice none 0 0] 113) := by
  obtain ⟨h1, h2⟩ := h
  go_enter Try.func40, Try.ntmps40
  go_wp2
  go_ret2
  exact ⟨rfl, rfl⟩
set_option maxHeartbeats 1000000 in
theorem stk_new_no (most : Int) (h : most < 1 ∨ 65536 < most) (w : World) :
    Calls Try.prog 40 #[.int .i64 most] w fun e w' => e = .returned (.tuple #[.pointer none, .int .i64 1]) ∧ w = w' := by
  rcases h with h | h
  · go_enter Try.func40, Try.ntmps40
    go_wp2
    go_ret2
    exact ⟨rfl, rfl⟩
  · have h1 : ¬ most < 1 := by omega
    go_enter Try.func40, Try.ntmps40
    go_wp2
    go_ret2
    exact ⟨rfl, rfl⟩
set_option maxHeartbeats 1000000 in
theorem stk_top_nil (w : World) : Calls Try.prog 47 #[.pointer none] w fun e w' => e = .returned (.tuple #[.int .i64 0, .bool false]) ∧ w = w' := by
  go_enter Try.func47, Try.ntmps47
  go_wp2_with (go_at_call 50; refine (stk_len_nil _).mono ?_; rintro e w' ⟨rfl, rfl⟩)
  go_ret2
  exact ⟨rfl, rfl⟩
set_option maxHeartbeats 1000000 in
theorem stk_top_empty (g c : Nat) (A : Option Addr) (u : Value) (w : World) (hb : Blk w g 113 #[u, .slice A 0 c]) :
    Calls Try.prog 47 #[.pointer (some ⟨g, 0, none⟩)] w fun e w' => e = .returned (.tuple #[.int .i64 0, .bool false]) ∧ w = w' := by
  have HB := Lib.hid hb
  clear hb
  go_enter Try.func47, Try.ntmps47
  go_wp2_with (go_at_call 50; refine (stk_len g 0 c A u _ HB.out).mono ?_; rintro e w' ⟨rfl, rfl⟩)
  go_ret2
  exact ⟨rfl, rfl⟩
set_option maxHeartbeats 1000000 in
theorem stk_top (g n c b : Nat) (u x : Value) (w : World) (hn : n + 1 ≤ maxLen) (hb : Blk w g 113 #[u, .slice (some ⟨b, 0, none⟩) (n + 1) c]) (hx : w.cell? ⟨b, n, none⟩ = some x) :
    Calls Try.prog 47 #[.pointer (some ⟨g, 0, none⟩)] w fun e w' => e = .returned (.tuple #[x, .bool true]) ∧ Below w.heap.size w w' := by
  unfold maxLen at hn
  have h1 : w.cell? ⟨g, 1, none⟩ = some (.slice (some ⟨b, 0, none⟩) (n + 1) c) := by rw [hb.cell]; rfl
  have HB := Lib.hid hb
  clear hb
  have s1 : IntKind.i64.wrap (((n + 1 : Nat) : Int) - 1) = (n : Int) := by rw [IntWalk.i64_in _ (by omega)]; omega
  go_enter Try.func47, Try.ntmps47
  go_wp2_with (go_at_call 50; refine (stk_len g (n + 1) c _ u _ HB.out).mono ?_; rintro e w' ⟨rfl, rfl⟩)
  go_quiet (fail)
  go_wp2_with fail
  go_ret2
  exact ⟨rfl, (by repeat (first | with_reducible exact Below.refl _ _ | with_reducible assumption | with_reducible refine Below.setCell ?_ (by first | omega | (simp <;> omega)) _ | with_reducible refine below_drewN ?_ _ | with_reducible refine Below.drew ?_ | with_reducible refine Below.alloc ?_ (by first | omega | (simp <;> omega)) _))⟩
def PushP (g most n : Nat) (v : Value) (l : List Int) (base : Nat) (w : World) (e : Ending) (w' : World) : Prop :=
  e = .returned (.int .i64 0) ∧ ∃ v', Blk w' g 113 #[.int .i64 most, v'] ∧ w'.ownsRow base 3 1 v' n (iv l) ∧ (v'.ownBlock = v.ownBlock ∨ ∀ b, v'.ownBlock = some b → w.heap.size ≤ b) ∧ Only (fun b => b = g ∨ some b = v.ownBlock) w w'
set_option maxRecDepth 100000 in
set_option maxHeartbeats 2000000 in
theorem stk_push (base g most n m B c : Nat) (v : Value) (A : Option Addr) (l zs : List Int) (w : World) (hb : Blk w g 113 #[.int .i64 most, v]) (hown : w.ownsRow base 3 1 v n (iv l))
    (hr : Reads w B 1 A m (iv zs)) (hB : B ≤ w.heap.size) (hbase : base ≤ w.heap.size) (hle : n + m ≤ most) (hm : most ≤ 65536) (hc : m ≤ c) :
    Calls Try.prog 46 #[.pointer (some ⟨g, 0, none⟩), .slice A m c] w (PushP g most (n + m) v (l ++ zs) base w) := by
  obtain ⟨i0, hi0, hz0, hz1, hz2⟩ := info_parts int_info
  obtain ⟨A1, c1, rfl, hr1⟩ := own_slice hown
  have h0 : w.cell? ⟨g, 0, none⟩ = some (.int .i64 most) := by rw [hb.cell]; rfl
  have h1 : w.cell? ⟨g, 1, none⟩ = some (.slice A1 n c1) := by rw [hb.cell]; rfl
  have hne := own_ne hown hb (by decide)
  have hgl := hb.lt
  have HB := Lib.hid hb
  have HO := Lib.hid hown
  have HR := Lib.hid hr
  have HN := Lib.hid hne
  clear hb hown hr hne hr1
  have s1 : IntKind.i64.wrap ((n : Int) + (m : Int)) = (n : Int) + (m : Int) := IntWalk.i64_in _ (by omega)
  have hd : decide ((n : Int) + (m : Int) ≤ (most : Int)) = true := by simp; omega
  have HD := Lib.hid hd
  clear hd
  go_enter Try.func46, Try.ntmps46
  go_upto_region 3 with fail
  go_cut [8] (fun s8 wx => s8 = .bool false ∧ Below w.heap.size w wx)
  case first =>
    go_region_held3 (fun w' => Below w.heap.size w w' ∧ w'.cell? ⟨g, 0, none⟩ = some (.int .i64 most) ∧ w'.cell? ⟨g, 1, none⟩ = some (.slice A1 n c1)) (first | exact keep2 (Nat.le_refl _) hbx ‹_› | exact ⟨Below.drew (Below.refl _ _), h0, h1⟩) (first | (go_at_call 71; ((with_reducible refine (stk_fits _ _ true HD.out _).mono ?_); rintro e wx ⟨rfl, hbx⟩)))
    go_wp2_with fail
    go_meet
    exact ⟨rfl, (‹Below w.heap.size w _ ∧ _›).1⟩
  obtain ⟨rfl, hbw⟩ := hcut
  have e0 := below_cell hbw h0
  have e1 := below_cell hbw h1
  have KB : Hid (Blk wc g 113 #[.int .i64 most, .slice A1 n c1]) := Lib.hid (HB.out.below hbw hgl)
  have KO : wc.ownsRow base 3 1 (.slice A1 n c1) n (iv l) := (Only.of_below (S := fun _ => False) hbw).own HO.out (fun _ _ h => h)
  have KR : Reads wc B 1 A m (iv zs) := HR.out.below (hbw.mono hB)
  have KF : wc.frozen? ⟨g, 1, none⟩ = false := KB.out.frozen 1
  have hsz := hbw.size
  clear h0 h1
  go_wp2_with (first
    | (at_builtin
       refine wpList_append_any _ rfl (.tmp 27) (.tmp 28) _ rfl base 3 i0 _ 1 8 Try.underlying45 hi0 hz0 hz1 hz2 rfl (by omega) (.slice A1 n c1) n (iv l) rfl KO B A m c (iv zs) rfl KR iv_one (by simp only [maxLen]; omega) (by omega) (by omega) ?_
       intro v1 w1 hown1 hg1 hat1
       obtain ⟨A2, c2, rfl, hr2⟩ := own_slice hown1
       clear hr2
       have q1 : w1.cell? ⟨g, 1, none⟩ = some (.slice A1 n c1) := hg1.cell e1 (fun h => HN.out h.symm)
       have q2 : w1.frozen? ⟨g, 1, none⟩ = false := ((Only.of_grown (S := fun b => some b = (Value.slice A1 n c1).ownBlock) hg1 (fun _ h => h)).blk KB.out (fun h => HN.out h.symm)).frozen 1
       have q3 := Lib.hid hg1
       have q4 := Lib.hid hown1
       have q5 := Lib.hid hat1
       clear hg1 hown1 hat1)
    | fail)
  go_ret
  have hO : Only (fun b => b = g ∨ some b = (Value.slice A1 n c1).ownBlock) w w1 := (Only.of_below hbw).trans (Only.of_grown (S := fun b => b = g ∨ some b = (Value.slice A1 n c1).ownBlock) q3.out (fun _ h => .inr h)) (fun _ _ h => h)
  have hB1 : Blk w1 g 113 #[.int .i64 most, .slice A1 n c1] := (Only.of_grown (S := fun b => some b = (Value.slice A1 n c1).ownBlock) q3.out (fun _ h => h)).blk KB.out (fun h => HN.out h.symm)
  refine ⟨rfl, _, hB1.set_ 1 _, ?_, ?_, hO.setCell (.inr (.inl rfl)) _⟩
  · rw [← iv_append]
    refine ((Only.refl (fun b => b = g) w1).setCell (.inr rfl) _).own q4.out (fun k hk hkg => ?_)
    exact own_ne q4.out hB1 (by decide) (by rw [hk, hkg])
  · rcases q5.out with h | h
    · exact .inl h
    · exact .inr (fun b hb => by rw [h] at hb; cases hb; omega)
set_option maxHeartbeats 2000000 in
theorem stk_push_nil (A : Option Addr) (m c : Nat) (w : World) : Calls Try.prog 46 #[.pointer none, .slice A m c] w fun e w' => e = .returned (.int .i64 1) ∧ w = w' := by
  go_enter Try.func46, Try.ntmps46
  go_wp2
  go_ret
  exact ⟨rfl, rfl⟩
set_option maxHeartbeats 2000000 in
theorem stk_push_full (g most n m c : Nat) (v : Value) (A1 : Option Addr) (c1 : Nat) (A : Option Addr) (w : World) (hb : Blk w g 113 #[.int .i64 most, .slice A1 n c1]) (hn : n ≤ maxLen) (hmx : m ≤ 65536) (hn2 : n ≤ 65536) (hgt : most < n + m) :
    Calls Try.prog 46 #[.pointer (some ⟨g, 0, none⟩), .slice A m c] w fun e w' => e = .returned (.int .i64 4) ∧ Below w.heap.size w w' := by
  have h0 : w.cell? ⟨g, 0, none⟩ = some (.int .i64 most) := by rw [hb.cell]; rfl
  have h1 : w.cell? ⟨g, 1, none⟩ = some (.slice A1 n c1) := by rw [hb.cell]; rfl
  clear hb
  have s1 : IntKind.i64.wrap ((n : Int) + (m : Int)) = (n : Int) + (m : Int) := IntWalk.i64_in _ (by omega)
  have hd : decide ((n : Int) + (m : Int) ≤ (most : Int)) = false := by simp; omega
  have HD := Lib.hid hd
  clear hd
  go_enter Try.func46, Try.ntmps46
  go_wp2_with fail
  go_region_held3 (fun w' => Below w.heap.size w w' ∧ w'.cell? ⟨g, 0, none⟩ = some (.int .i64 most) ∧ w'.cell? ⟨g, 1, none⟩ = some (.slice A1 n c1)) (first | exact keep2 (Nat.le_refl _) hbx ‹_› | exact ⟨Below.drew (Below.refl _ _), h0, h1⟩) (first | (go_at_call 71; ((with_reducible refine (stk_fits _ _ false HD.out _).mono ?_); rintro e wx ⟨rfl, hbx⟩)))
  go_wp2_with fail
  go_ret
  exact ⟨rfl, (‹Below w.heap.size w _ ∧ _›).1⟩
theorem own_shrink {w : World} {base : Nat} {e : TypeId} {b n c : Nat} {xs : List Value} (h : w.ownsRow base e 1 (.slice (some ⟨b, 0, none⟩) n c) n xs) (k : Nat) (hk : k ≤ n) :
    w.ownsRow base e 1 (.slice (some ⟨b, 0, none⟩) k c) k (xs.take k) := by
  obtain ⟨h1, h2⟩ := h
  rcases h2 with ⟨h0, _⟩ | ⟨g', cap', cur, hv, hg, hh, hn, hcap, hsz, htake⟩
  · cases h0
  · cases hv
    refine ⟨by rw [List.length_take, h1]; omega, .inr ⟨b, c, cur, rfl, hg, hh, by omega, hcap, hsz, ?_⟩⟩
    rw [← htake, List.take_take, Nat.mul_one, Nat.mul_one, Nat.min_eq_left hk]
def PopP (g most n c b : Nat) (x : Value) (l : List Int) (base : Nat) (w : World) (e : Ending) (w' : World) : Prop :=
  e = .returned (.tuple #[x, .bool true]) ∧ Blk w' g 113 #[.int .i64 most, .slice (some ⟨b, 0, none⟩) n c] ∧ w'.ownsRow base 3 1 (.slice (some ⟨b, 0, none⟩) n c) n (iv (l.take n)) ∧ Only (fun k => k = g ∨ k = b) w w'
set_option maxHeartbeats 2000000 in
theorem stk_pop (base g most n c b : Nat) (l : List Int) (w : World) (hb : Blk w g 113 #[.int .i64 most, .slice (some ⟨b, 0, none⟩) (n + 1) c]) (hown : w.ownsRow base 3 1 (.slice (some ⟨b, 0, none⟩) (n + 1) c) (n + 1) (iv l)) (hn : n + 1 ≤ c ∧ c ≤ maxLen) :
    Calls Try.prog 43 #[.pointer (some ⟨g, 0, none⟩)] w (PopP g most n c b (.int .i64 (l.getD n 0)) l base w) := by
  obtain ⟨hn1, hn2⟩ := hn
  have hne := own_ne hown hb (by decide)
  have hl : l.length = n + 1 := by have := hown.1; simpa [iv] using this
  have hx : w.cell? ⟨b, n, none⟩ = some (.int .i64 (l.getD n 0)) := by rw [hown.cellAt n (by omega)]; exact iv_get (by omega)
  have hf : w.frozen? ⟨b, n, none⟩ = false := hown.frozenAt n
  have HM := Lib.hid hn2
  unfold maxLen at hn2
  have HB := Lib.hid hb
  have HO := Lib.hid hown
  have HN := Lib.hid hne
  have HL := Lib.hid hl
  clear hb hown hne hl
  generalize hX : l.getD n 0 = X at *
  have HX := Lib.hid hX
  clear hX
  go_enter Try.func43, Try.ntmps43
  go_wp2_with fail
  refine (stk_top g n c b _ _ _ (Nat.le_trans hn1 HM.out) HB.out hx).mono ?_
  rintro e w1 ⟨rfl, hb1⟩
  have hO1 : Only (fun k => k = g ∨ k = b) w w1 := Only.of_below hb1
  have e1 : Blk w1 g 113 #[.int .i64 most, .slice (some ⟨b, 0, none⟩) (n + 1) c] := HB.out.below hb1 HB.out.lt
  have e2 : w1.ownsRow base 3 1 (.slice (some ⟨b, 0, none⟩) (n + 1) c) (n + 1) (iv l) := (Only.of_below (S := fun _ => False) hb1).own HO.out (fun _ _ h => h)
  have q1 : w1.cell? ⟨g, 1, none⟩ = some (.slice (some ⟨b, 0, none⟩) (n + 1) c) := by rw [e1.cell]; rfl
  have q2 : w1.frozen? ⟨g, 1, none⟩ = false := e1.frozen 1
  have q3 := below_cell hb1 hx
  have q4 : w1.frozen? ⟨b, n, none⟩ = false := e2.frozenAt n
  have hgb : ¬ b = g := fun h => HN.out (by rw [h]; rfl)
  have HE1 := Lib.hid e1
  have HE2 := Lib.hid e2
  clear e1 e2 hx hf
  go_wp2_with fail
  go_ret2
  obtain ⟨o1, o2⟩ := HE2.out.stored n (.int .i64 0)
  have b2 : Blk (w1.setCell ⟨b, n, none⟩ (.int .i64 0)) g 113 #[.int .i64 most, .slice (some ⟨b, 0, none⟩) (n + 1) c] := HE1.out.far (fun h => hgb h.symm) _
  refine ⟨rfl, b2.set_ 1 _, ?_, (hO1.setCell (.inr (.inr rfl)) _).setCell (.inr (.inl rfl)) _⟩
  have o3 := own_shrink o1 n (by omega)
  have e : (iv l).set n (.int .i64 0) = iv (l.set n 0) := by simp [iv, List.map_set]
  rw [e, iv_take, List.take_set_of_le (Nat.le_refl _)] at o3
  exact ((Only.refl (fun k => k = g) _).setCell (.inr rfl) _).own o3 (fun k hk hkg => by cases hk; exact hgb hkg)
set_option maxHeartbeats 1000000 in
theorem stk_pop_nil (w : World) : Calls Try.prog 43 #[.pointer none] w fun e w' => e = .returned (.tuple #[.int .i64 0, .bool false]) ∧ w = w' := by
  go_enter Try.func43, Try.ntmps43
  go_wp2_with (go_at_call 47; refine (stk_top_nil _).mono ?_; rintro e w' ⟨rfl, rfl⟩)
  go_ret2
  exact ⟨rfl, rfl⟩
set_option maxHeartbeats 1000000 in
theorem stk_pop_empty (g c : Nat) (A : Option Addr) (u : Value) (w : World) (hb : Blk w g 113 #[u, .slice A 0 c]) :
    Calls Try.prog 43 #[.pointer (some ⟨g, 0, none⟩)] w fun e w' => e = .returned (.tuple #[.int .i64 0, .bool false]) ∧ w = w' := by
  have HB := Lib.hid hb
  clear hb
  go_enter Try.func43, Try.ntmps43
  go_wp2_with (go_at_call 47; refine (stk_top_empty g c A u _ HB.out).mono ?_; rintro e w' ⟨rfl, rfl⟩)
  go_ret2
  exact ⟨rfl, rfl⟩
set_option maxHeartbeats 1000000 in
theorem stk_clear_nil (w : World) : Calls Try.prog 44 #[.pointer none] w fun e w' => e = .returned (.tuple #[]) ∧ w = w' := by
  go_enter Try.func44, Try.ntmps44
  go_wp2
  go_end0
  exact ⟨rfl, rfl⟩
set_option maxHeartbeats 1000000 in
theorem stk_clear (g n c : Nat) (A : Option Addr) (u : Value) (w : World) (hb : Blk w g 113 #[u, .slice A n c]) : Calls Try.prog 44 #[.pointer (some ⟨g, 0, none⟩)] w fun e w' => e = .returned (.tuple #[]) ∧ w' = w.setCell ⟨g, 1, none⟩ (.slice none 0 0) := by
  have h1 : w.cell? ⟨g, 1, none⟩ = some (.slice A n c) := by rw [hb.cell]; rfl
  have h2 : w.frozen? ⟨g, 1, none⟩ = false := hb.frozen 1
  clear hb
  go_enter Try.func44, Try.ntmps44
  go_wp2
  go_end0
  exact ⟨rfl, rfl⟩
set_option maxHeartbeats 1000000 in
theorem stk_clone_nil (w : World) : Calls Try.prog 45 #[.pointer none] w fun e w' => e = .returned (.pointer none) ∧ w = w' := by
  go_enter Try.func45, Try.ntmps45
  go_wp2
  go_ret
  exact ⟨rfl, rfl⟩
end Go.Proofs.Ytmmmhkpekaimeaa
