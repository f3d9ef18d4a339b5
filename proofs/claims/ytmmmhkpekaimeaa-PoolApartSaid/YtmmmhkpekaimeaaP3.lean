/- A pool of ints (layer 6): Take and at. -/
import Derived.Test.YtmmmhkpekaimeaaP2
set_option linter.unusedVariables false
namespace Go.Proofs.Ytmmmhkpekaimeaa
open Go.ChangeShapes Go.WideShapes Go.ChangeAt Go.RowKit
theorem Pl.keep {w w' : World} {base g n m : Nat} {most : Int} {x y : Value} {X : List (Int × Bool)} {Y : List Int} {P : Nat → Prop} (h : Pl w base g most x n X y m Y) (ho : Only P w w') (h0 : ¬ P g) (h1 : ∀ b, x.ownBlock = some b → ¬ P b) (h2 : ∀ b, y.ownBlock = some b → ¬ P b) : Pl w' base g most x n X y m Y :=
  ⟨ho.blk h.1 h0, ho.own h.2.1 h1, ho.own h.2.2.1 h2, h.2.2.2⟩
set_option maxRecDepth 100000 in
set_option maxHeartbeats 4000000 in
theorem take_of (base g k n' m' : Nat) (most v : Int) (X' : List (Int × Bool)) (y' : Value) (Y' : List Int) (S : Nat → Prop) (w : World) (hk : k < n') (hn' : n' ≤ 1048576) (hg : g < w.heap.size) (hSl : ∀ i, S i → i < w.heap.size) (hy : ∀ b, y'.ownBlock = some b → b < w.heap.size)
    (H : ∀ W, Only (fun _ => False) w W → Calls Try.prog 69 #[.pointer (some ⟨g, 0, none⟩)] W fun e w' => e = .returned (.int .i64 ((k : Int) + 1)) ∧ ∃ x', Pl w' base g most x' n' X' y' m' Y' ∧ Only S W w' ∧ ∀ b, x'.ownBlock = some b → W.heap.size ≤ b ∨ S b) :
    Calls Try.prog 36 #[.pointer (some ⟨g, 0, none⟩), .int .i64 v] w fun e w' => e = .returned (.tuple #[.int .i64 ((k : Int) + 1), .int .i64 0]) ∧ (∃ x', Pl w' base g most x' n' (X'.set k (v, true)) y' m' Y' ∧ ∀ b, x'.ownBlock = some b → w.heap.size ≤ b ∨ S b) ∧ Only S w w' := by
  have hmf : ∀ (fn : Fn) (first cap : Array Value) (w : World), (Instr.makeFunc fn first cap).run Try.prog w = .ok (.func fn first cap) w := fun _ _ _ _ => rfl
  have hW : Only (fun _ => False) w ((w.alloc (.cells #[.pointer (some ⟨g, 0, none⟩)] 51)).alloc (.cells #[.int .i64 v] 3)) := ((Only.refl _ w).alloc _).alloc _
  have hz : ((w.alloc (.cells #[.pointer (some ⟨g, 0, none⟩)] 51)).alloc (.cells #[.int .i64 v] 3)).heap.size = w.heap.size + 2 := by simp
  have p0 : Blk ((w.alloc (.cells #[.pointer (some ⟨g, 0, none⟩)] 51)).alloc (.cells #[.int .i64 v] 3)) w.heap.size 51 #[.pointer (some ⟨g, 0, none⟩)] := (Blk.new w 51 _).alloc _
  have p1 : Blk ((w.alloc (.cells #[.pointer (some ⟨g, 0, none⟩)] 51)).alloc (.cells #[.int .i64 v] 3)) (w.heap.size + 1) 3 #[.int .i64 v] := by
    have h := Blk.new (w.alloc (.cells #[.pointer (some ⟨g, 0, none⟩)] 51)) 3 #[.int .i64 v]
    have hs : (w.alloc (.cells #[.pointer (some ⟨g, 0, none⟩)] 51)).heap.size = w.heap.size + 1 := by simp
    rw [hs] at h
    exact h
  have hC : Only (fun _ => False) ((w.alloc (.cells #[.pointer (some ⟨g, 0, none⟩)] 51)).alloc (.cells #[.int .i64 v] 3)) (FD (CI (.func (.func 68) #[] #[.pointer (some ⟨w.heap.size, 0, none⟩), .pointer (some ⟨w.heap.size + 1, 0, none⟩)]) ((w.alloc (.cells #[.pointer (some ⟨g, 0, none⟩)] 51)).alloc (.cells #[.int .i64 v] 3)))) := (CI_only _ _ _).trans (FD_only _ _) (fun _ _ h => h)
  have hz4 : (FD (CI (.func (.func 68) #[] #[.pointer (some ⟨w.heap.size, 0, none⟩), .pointer (some ⟨w.heap.size + 1, 0, none⟩)]) ((w.alloc (.cells #[.pointer (some ⟨g, 0, none⟩)] 51)).alloc (.cells #[.int .i64 v] 3)))).heap.size = w.heap.size + 6 := by rw [FD_size, CI_size, hz]
  have hT := vint_frame 68 #[] #[.pointer (some ⟨w.heap.size, 0, none⟩), .pointer (some ⟨w.heap.size + 1, 0, none⟩)] (fun args W => by kernel_rfl) none ((k : Int) + 1)
    (fun w' => ∃ x', Pl w' base g most x' n' (X'.set k (v, true)) y' m' Y' ∧ ∀ b, x'.ownBlock = some b → w.heap.size + 6 ≤ b ∨ S b) S ((w.alloc (.cells #[.pointer (some ⟨g, 0, none⟩)] 51)).alloc (.cells #[.int .i64 v] 3))
    (fun i h => by rw [hz]; have := hSl i h; omega)
    (fun w1 w' h1 h2 => by
      obtain ⟨x', hp, hx⟩ := h1
      rw [hz] at h2
      exact ⟨x', hp.keep h2 (fun h => by omega) (fun b hb h => (hx b hb).elim (fun h' => by omega) (fun h' => by have := hSl b h'; omega)) (fun b hb h => by have := hy b hb; omega), hx⟩)
    ((take1_of base g k n' m' w.heap.size (w.heap.size + 1) most v X' y' Y' S (FD (CI (.func (.func 68) #[] #[.pointer (some ⟨w.heap.size, 0, none⟩), .pointer (some ⟨w.heap.size + 1, 0, none⟩)]) ((w.alloc (.cells #[.pointer (some ⟨g, 0, none⟩)] 51)).alloc (.cells #[.int .i64 v] 3)))) hk hn' (hC.blk p0 (fun h => h)) (hC.blk p1 (fun h => h)) (fun h => by have := hSl _ h; omega) (fun h => by have := hSl _ h; omega) (fun h => by have := hy _ h; omega)
      (H _ (hW.trans hC (fun _ _ h => h)))).mono fun e w1 h => ⟨h.1, by rw [hz4] at h; exact h.2.1, h.2.2⟩)
  have HT := Lib.hid hT
  have HSl := Lib.hid hSl
  have HW := Lib.hid hW
  clear hT p0 p1 hC hz4 H hSl hy hz hW
  go_enter Try.func36, Try.ntmps36
  go_wp2_with fail
  refine (HT.out).mono ?_
  intro e w1 hP
  obtain ⟨he, ⟨x', hp, hx⟩, ho⟩ := hP
  obtain rfl : e = .returned (.tuple #[.int .i64 ((k : Int) + 1), .int .i64 0]) := he
  have HP := Lib.hid hp
  have HX := Lib.hid hx
  have HO := Lib.hid ho
  clear hp hx ho
  go_wp2_with fail
  go_ret2
  exact ⟨rfl, ⟨x', HP.out, fun b hb => (HX.out b hb).imp (fun h => by omega) id⟩, (HW.out.mono (fun _ _ h => h.elim)).trans HO.out (fun i _ h => h)⟩
set_option maxRecDepth 100000 in
set_option maxHeartbeats 4000000 in
theorem at_yes (g k n c b : Nat) (most : Int) (y : Value) (f : FuncId) (cap : Array Value) (hen : ∀ args W, (callFunc f args).run Try.prog W = .ok (.enter f args) W) (R : World → Prop) (w : World) (hk : k < n) (hn : n ≤ 1048576)
    (hb : Blk w g 103 #[.int .i64 most, .slice (some ⟨b, 0, none⟩) n c, y]) (ht : w.cell? ⟨b, k * 2 + 1, none⟩ = some (.bool true))
    (H : Calls Try.prog f (#[.pointer (some ⟨b, k * 2, none⟩)] ++ cap) w fun e w' => e = .returned (.tuple #[]) ∧ R w') :
    Calls Try.prog 64 #[.pointer (some ⟨g, 0, none⟩), .int .i64 ((k : Int) + 1), .func (.func f) #[] cap] w fun e w' => e = .returned (.int .i64 0) ∧ R w' := by
  have e1 : w.cell? ⟨g, 1, none⟩ = some (.slice (some ⟨b, 0, none⟩) n c) := by rw [hb.cell]; rfl
  have s1 : IntKind.i64.wrap ((k : Int) + 1 - 1) = (k : Int) := by rw [Int.add_sub_cancel]; exact IntWalk.i64_in _ (by omega)
  have s2 : IntKind.i64.wrap (k : Int) = (k : Int) := IntWalk.i64_in _ (by omega)
  have i0 : (0 : Int) ≤ (k : Int) := by omega
  have i1 : (k : Int) < (n : Int) := by omega
  have i2 : ¬ ((k : Int) + 1 < 1) := by omega
  have i3 : ¬ ((n : Int) < (k : Int) + 1) := by omega
  have HH := Lib.hid H
  clear H hb
  go_enter Try.func64, Try.ntmps64
  go_wp2_with fail
  refine (HH.out).mono ?_
  rintro e w1 ⟨rfl, hr⟩
  go_wp2_with fail
  go_ret
  exact ⟨rfl, hr⟩
set_option maxRecDepth 100000 in
set_option maxHeartbeats 4000000 in
theorem give1_of (base g k n m b bp bi c : Nat) (most i : Int) (X : List (Int × Bool)) (y : Value) (Y : List Int) (w : World) (h : Pl w base g most (.slice (some ⟨b, 0, none⟩) n c) n X y m Y) (hk : k < n) (hm : m ≤ 1048576) (hbase : base ≤ w.heap.size)
    (b0 : Blk w bp 51 #[.pointer (some ⟨g, 0, none⟩)]) (b1 : Blk w bi 3 #[.int .i64 i]) (hyi : y.ownBlock ≠ some bi) :
    Calls Try.prog 66 #[.pointer (some ⟨b, k * 2, none⟩), .pointer (some ⟨bp, 0, none⟩), .pointer (some ⟨bi, 0, none⟩)] w fun e w' => e = .returned (.tuple #[]) ∧ ∃ y', Pl w' base g most (.slice (some ⟨b, 0, none⟩) n c) n (X.set k (0, false)) y' (m + 1) (Y ++ [i]) ∧ (y'.ownBlock = y.ownBlock ∨ ∀ q, y'.ownBlock = some q → w.heap.size ≤ q) ∧ Only (fun q => q = g ∨ q = b ∨ some q = y.ownBlock) w w' := by
  obtain ⟨i0, hi0, hz0, hz1, hz2⟩ := info_parts pint_info
  obtain ⟨hb, hx, hy, hxy⟩ := h
  obtain ⟨A1, c1, rfl, -⟩ := own_slice hy
  have f0 : w.frozen? ⟨b, k * 2, none⟩ = false := hx.frozenAt _
  have f1 : w.frozen? ⟨b, k * 2 + 1, none⟩ = false := hx.frozenAt _
  obtain ⟨u0, hu0⟩ : ∃ u, w.cell? ⟨b, k * 2, none⟩ = some u := by
    rw [hx.cellAt _ (by omega)]
    exact ⟨_, List.getElem?_eq_getElem (by have := hx.1; omega)⟩
  obtain ⟨u1, hu1⟩ : ∃ u, w.cell? ⟨b, k * 2 + 1, none⟩ = some u := by
    rw [hx.cellAt _ (by omega)]
    exact ⟨_, List.getElem?_eq_getElem (by have := hx.1; omega)⟩
  have hgl := hb.lt
  have HB := Lib.hid hb
  have HX := Lib.hid hx
  have HY := Lib.hid hy
  have HXY := Lib.hid hxy
  have HB0 := Lib.hid b0
  have HB1 := Lib.hid b1
  clear hb hx hy hxy b0 b1
  go_enter Try.func66, Try.ntmps66
  go_upto_region 1 with fail
  obtain ⟨w1, hw1⟩ : ∃ x, x = (w.setCell ⟨b, k * 2, none⟩ (.int .i64 0)).setCell ⟨b, k * 2 + 1, none⟩ (.bool false) := ⟨_, rfl⟩
  rw [← hw1]
  have hS : Only (fun q => q = b) w w1 := by rw [hw1]; exact (Only.setCell (S := fun q => q = b) (p := ⟨b, k * 2, none⟩) (Only.refl _ w) (.inr rfl) _).setCell (p := ⟨b, k * 2 + 1, none⟩) (.inr rfl) _
  have o2 : w1.ownsRow base 105 2 (.slice (some ⟨b, 0, none⟩) n c) n (nv (X.set k (0, false))) := by
    obtain ⟨o1, -⟩ := HX.out.stored (k * 2) (.int .i64 0)
    obtain ⟨o2, -⟩ := o1.stored (k * 2 + 1) (.bool false)
    rw [nv_set] at o2
    rw [hw1]; exact o2
  have ngb : ¬ g = b := fun h => own_ne HX.out HB.out (by decide) (by rw [h]; rfl)
  have n0b : ¬ bp = b := fun h => own_ne HX.out HB0.out (by decide) (by rw [h]; rfl)
  have n1b : ¬ bi = b := fun h => own_ne HX.out HB1.out (by decide) (by rw [h]; rfl)
  have d := hS.blk HB.out ngb
  have d0 := hS.blk HB0.out n0b
  have d1 := hS.blk HB1.out n1b
  have hY1 : w1.ownsRow base 3 1 (.slice A1 m c1) m (iv Y) := hS.own HY.out (fun q hq h => HXY.out b rfl (by rw [hq, h]))
  have n0g : bp ≠ g := Blk.ne_ d0 d (by decide)
  have n1g : bi ≠ g := Blk.ne_ d1 d (by decide)
  have e0 : w1.cell? ⟨bp, 0, none⟩ = some (.pointer (some ⟨g, 0, none⟩)) := by rw [d0.cell]; rfl
  have e1 : w1.cell? ⟨bi, 0, none⟩ = some (.int .i64 i) := by rw [d1.cell]; rfl
  have e2 : w1.cell? ⟨g, 2, none⟩ = some (.slice A1 m c1) := by rw [d.cell]; rfl
  have hs1 : w1.heap.size = w.heap.size := by rw [hw1]; simp
  have KB : Hid (Blk (w1.alloc (.cells #[.int .i64 i] 3)) g 103 #[.int .i64 most, .slice (some ⟨b, 0, none⟩) n c, .slice A1 m c1]) := Lib.hid (d.alloc _)
  have KO : Hid ((w1.alloc (.cells #[.int .i64 i] 3)).ownsRow base 3 1 (.slice A1 m c1) m (iv Y)) := Lib.hid (hY1.alloc _)
  have KR : Hid (Reads (w1.alloc (.cells #[.int .i64 i] 3)) (w1.alloc (.cells #[.int .i64 i] 3)).heap.size 1 (some ⟨w1.heap.size, 0, none⟩) 1 (iv [i])) := Lib.hid (Reads.of_own (base := 0) (e := 3) (c := 1) (World.ownsRow_lit (size := 1) (e := 3) w1 #[.int .i64 i] 1 (Nat.zero_le _) (by simp [maxLen]) rfl))
  have K0 : Hid (Blk (w1.alloc (.cells #[.int .i64 i] 3)) bp 51 #[.pointer (some ⟨g, 0, none⟩)]) := Lib.hid (d0.alloc _)
  have K1 : Hid (Blk (w1.alloc (.cells #[.int .i64 i] 3)) bi 3 #[.int .i64 i]) := Lib.hid (d1.alloc _)
  have NG : Hid ((Value.slice A1 m c1).ownBlock ≠ some g) := Lib.hid (own_ne hY1 d (by decide))
  have N0 : Hid ((Value.slice A1 m c1).ownBlock ≠ some bp) := Lib.hid (own_ne hY1 d0 (by decide))
  have N1 : Hid ((Value.slice A1 m c1).ownBlock ≠ some bi) := Lib.hid hyi
  have hsz : w.heap.size ≤ (w1.alloc (.cells #[.int .i64 i] 3)).heap.size := by rw [← hs1]; simp
  have hgl1 : g < w1.heap.size := by omega
  have HSZ := Lib.hid hsz
  have HS1 := Lib.hid hs1
  have HS := Lib.hid hS
  have HO2 := Lib.hid o2
  have DR : Only (fun _ => False) (w1.alloc (.cells #[.int .i64 i] 3)) ((w1.alloc (.cells #[.int .i64 i] 3)).drew) := (Only.refl _ _).drew
  have KBd := Lib.hid (DR.blk KB.out (fun h => h))
  have KOd := Lib.hid (DR.own KO.out (fun _ _ h => h))
  have KRd := Lib.hid (DR.reads KR.out (Nat.le_refl _) (fun _ _ h => h))
  have K0d := Lib.hid (DR.blk K0.out (fun h => h))
  have K1d := Lib.hid (DR.blk K1.out (fun h => h))
  have HDR := Lib.hid DR
  clear f0 f1 hu0 hu1 hw1 hsz hS o2 hY1 d d0 d1 hyi hs1 DR
  refine wp_region_noPanic ?_
  refine wp_region_held_drew (S := fun w' => w'.cell? ⟨bp, 0, none⟩ = some (.pointer (some ⟨g, 0, none⟩)) ∧ w'.cell? ⟨bi, 0, none⟩ = some (.int .i64 i)) (by kernel_rfl) ?_ (fun hHeld => ?_)
  · first | exact ⟨e0, e1⟩ | exact ⟨q0, q1⟩ | ((repeat' apply And.intro) <;> first | (go_keep; done) | (go_simp; done))
  refine wpAnyH_take (i := 0) (oi := ⟨_, _, _, _, _, _⟩) (v := ?_) rfl (by kernel_rfl) (by kernel_rfl) (by kernel_rfl) (fun _ _ _ h => h) (Or.inl ⟨by rfl, ?_⟩) (by assumption) ?_
  rotate_left
  · intro w hSw; (try dsimp only at hSw); go_split_ands; go_simp; try with_reducible rfl
  try simp only [Act.put, List.setIfInBounds_toArray, List.set_cons_zero, List.set_cons_succ]
  refine wpAnyH_take (i := 1) (oi := ⟨_, _, _, _, _, _⟩) (v := ?_) rfl (by kernel_rfl) (by kernel_rfl) (by kernel_rfl) (fun _ _ _ h => h) (Or.inl ⟨by rfl, ?_⟩) (by assumption) ?_
  rotate_left
  · intro w hSw; (try dsimp only at hSw); go_split_ands; go_simp; try with_reducible rfl
  try simp only [Act.put, List.setIfInBounds_toArray, List.set_cons_zero, List.set_cons_succ]
  refine wpAnyH_take (i := 2) (oi := ⟨_, _, _, _, _, _⟩) (v := ?_) rfl (by kernel_rfl) (by kernel_rfl) (by kernel_rfl) (fun _ _ _ h => h) (Or.inl ⟨by rfl, ?_⟩) (by assumption) ?_
  rotate_left
  · intro w hSw; (try dsimp only at hSw); go_split_ands; go_simp; try with_reducible rfl
  try simp only [Act.put, List.setIfInBounds_toArray, List.set_cons_zero, List.set_cons_succ]
  refine wpAnyH_take (i := 3) (oi := ⟨_, _, _, _, _, _⟩) (v := ?_) rfl (by kernel_rfl) (by kernel_rfl) (by kernel_rfl) (fun _ _ _ h => h) (Or.inl ⟨by rfl, ?_⟩) (by assumption) ?_
  rotate_left
  · intro w hSw; (try dsimp only at hSw); go_split_ands; go_simp; try with_reducible rfl
  try simp only [Act.put, List.setIfInBounds_toArray, List.set_cons_zero, List.set_cons_succ]
  refine wpAnyH_take (i := 5) (oi := ⟨_, _, _, _, _, _⟩) (v := ?_) rfl (by kernel_rfl) (by kernel_rfl) (by kernel_rfl) (fun _ _ _ h => h) (Or.inl ⟨by rfl, ?_⟩) (by assumption) ?_
  rotate_left
  · intro w hSw; (try dsimp only at hSw); go_split_ands; go_simp; try with_reducible rfl
  try simp only [Act.put, List.setIfInBounds_toArray, List.set_cons_zero, List.set_cons_succ]
  refine wpAnyH_ready (rs := [4, 6]) (by kernel_rfl) (by simp) ?_
  refine AllReadyH.cons (o := ⟨_, _, _, _, _, _⟩) rfl (fun K hK => ?_) (AllReadyH.cons (o := ⟨_, _, _, _, _, _⟩) rfl (fun K hK => ?_) AllReadyH.nil)
  · go_simp
    refine hK.out _ _ ?_ (fun hHeld => ?_)
    · first | exact ⟨e0, e1⟩ | exact ⟨q0, q1⟩ | ((repeat' apply And.intro) <;> first | (go_keep; done) | (go_simp; done))
    clear hK K
    try simp only [Act.put, List.setIfInBounds_toArray, List.set_cons_zero, List.set_cons_succ]
    refine wpAnyH_ready (rs := [6]) (by kernel_rfl) (by simp) ?_
    refine AllReadyH.cons (o := ⟨_, _, _, _, _, _⟩) rfl (fun K hK => ?_) AllReadyH.nil
    go_simp
    refine hK.out _ _ ?_ (fun hHeld => ?_)
    · first | exact ⟨e0, e1⟩ | exact ⟨q0, q1⟩ | ((repeat' apply And.intro) <;> first | (go_keep; done) | (go_simp; done))
    clear hK K
    try simp only [Act.put, List.setIfInBounds_toArray, List.set_cons_zero, List.set_cons_succ]
    refine wpAnyH_ready (rs := [7]) (by kernel_rfl) (by simp) ?_
    refine AllReadyH.cons (o := ⟨_, _, _, _, _, _⟩) rfl (fun K hK => ?_) AllReadyH.nil
    refine step_append_any _ rfl (.tmp 11) (.tmp 13) _ rfl base 3 i0 _ 1 8 Try.underlying45 hi0 hz0 hz1 hz2 rfl (by omega) (.slice A1 m c1) m (iv Y) rfl (by first | exact KOd.out | exact KO.out) _ _ 1 1 (iv [i]) rfl (by first | exact KRd.out | exact KR.out) iv_one (by simp only [maxLen]; omega) (by omega) (Nat.le_trans hbase HSZ.out) ?_
    intro v1 w2 hown1 hg1 hat1
    obtain ⟨A3, c3, rfl, -⟩ := own_slice hown1
    have hO1 := Only.of_grown (S := fun b => some b = (Value.slice A1 m c1).ownBlock) hg1 (fun _ h => h)
    have B2 := hO1.blk KBd.out (fun h => NG.out h.symm)
    have q0 : w2.cell? ⟨bp, 0, none⟩ = some (.pointer (some ⟨g, 0, none⟩)) := (by rw [(hO1.blk K0d.out (fun h => N0.out h.symm)).cell]; rfl)
    have q1 : w2.cell? ⟨bi, 0, none⟩ = some (.int .i64 i) := (by rw [(hO1.blk K1d.out (fun h => N1.out h.symm)).cell]; rfl)
    have q2 : w2.cell? ⟨g, 2, none⟩ = some (.slice A1 m c1) := (by rw [B2.cell]; rfl)
    have q3 : w2.frozen? ⟨g, 2, none⟩ = false := B2.frozen 2
    have HB2 := Lib.hid B2
    have HN1 := Lib.hid hown1
    have HG1 := Lib.hid hO1
    have HA1 := Lib.hid hat1
    clear hown1 hg1 hat1 hO1 B2
    refine hK.out _ _ ?_ (fun hHeld => ?_)
    · first | exact ⟨e0, e1⟩ | exact ⟨q0, q1⟩ | ((repeat' apply And.intro) <;> first | (go_keep; done) | (go_simp; done))
    clear hK K
    try simp only [Act.put, List.setIfInBounds_toArray, List.set_cons_zero, List.set_cons_succ]
    refine wpAnyH_take (i := 8) (oi := ⟨_, _, _, _, _, _⟩) (v := ?_) rfl (by kernel_rfl) (by kernel_rfl) (by kernel_rfl) (fun _ _ _ h => h) (Or.inl ⟨by rfl, ?_⟩) (by assumption) ?_
    rotate_left
    · intro w hSw; (try dsimp only at hSw); go_split_ands; go_simp; try with_reducible rfl
    try simp only [Act.put, List.setIfInBounds_toArray, List.set_cons_zero, List.set_cons_succ]
    refine wpAnyH_take (i := 9) (oi := ⟨_, _, _, _, _, _⟩) (v := ?_) rfl (by kernel_rfl) (by kernel_rfl) (by kernel_rfl) (fun _ _ _ h => h) (Or.inl ⟨by rfl, ?_⟩) (by assumption) ?_
    rotate_left
    · intro w hSw; (try dsimp only at hSw); go_split_ands; go_simp; try with_reducible rfl
    try simp only [Act.put, List.setIfInBounds_toArray, List.set_cons_zero, List.set_cons_succ]
    refine wpAnyH_ready (rs := [10]) (by kernel_rfl) (by simp) ?_
    refine AllReadyH.cons (o := ⟨_, _, _, _, _, _⟩) rfl (fun K hK => ?_) AllReadyH.nil
    go_simp
    refine hK.out _ _ ?_ (fun hHeld => ?_)
    · first | exact ⟨e0, e1⟩ | exact ⟨q0, q1⟩ | ((repeat' apply And.intro) <;> first | (go_keep; done) | (go_simp; done))
    clear hK K
    try simp only [Act.put, List.setIfInBounds_toArray, List.set_cons_zero, List.set_cons_succ]
    refine wpAnyH_done (by kernel_rfl) ?_ _
    refine NoPanic.normal ?_
    go_end0
    have hO : Only (fun q => q = g ∨ q = b ∨ some q = (Value.slice A1 m c1).ownBlock) w w2 := (((HS.out.mono (fun _ _ h => .inr (.inl h))).alloc (.cells #[.int .i64 i] 3)).drew).trans (HG1.out.mono (fun _ _ h => .inr (.inr h))) (fun i _ h => h)
    have hSt : Only (fun q => q = g) w2 (w2.setCell ⟨g, 2, none⟩ (.slice A3 (m + 1) c3)) := Only.setCell (S := fun q => q = g) (p := ⟨g, 2, none⟩) (Only.refl _ w2) (.inr rfl) _
    refine ⟨rfl, _, ⟨HB2.out.set_ 2 _, ?_, ?_, ?_⟩, ?_, hO.setCell (p := ⟨g, 2, none⟩) (.inr (.inl rfl)) _⟩
    · exact hSt.own (HG1.out.own ((((Only.refl (fun _ => False) w1).alloc _).drew).own HO2.out (fun _ _ h => h)) (fun q hq h => HXY.out q hq h.symm)) (fun q hq h => ngb (by cases hq; exact h.symm))
    · rw [← iv_append]
      exact hSt.own HN1.out (fun q hq h => own_ne HN1.out HB2.out (by decide) (by rw [hq, h]))
    · intro q hq hy
      rcases HA1.out with h | h
      · exact HXY.out q hq (by rw [← h, hy])
      · rw [h] at hy
        cases hq
        have hlt := (HX.out.lt _ rfl).2
        have hle := HSZ.out
        have he : b = (w1.alloc (.cells #[.int .i64 i] 3)).heap.size := (Option.some.inj hy).symm
        exact absurd (Nat.lt_of_lt_of_le hlt hle) (by rw [← he]; exact Nat.lt_irrefl _)
    · rcases HA1.out with h | h
      · exact .inl h
      · exact .inr (fun q hq => by rw [h] at hq; cases hq; exact HSZ.out)
  · go_simp
    refine hK.out _ _ ?_ (fun hHeld => ?_)
    · first | exact ⟨e0, e1⟩ | exact ⟨q0, q1⟩ | ((repeat' apply And.intro) <;> first | (go_keep; done) | (go_simp; done))
    clear hK K
    try simp only [Act.put, List.setIfInBounds_toArray, List.set_cons_zero, List.set_cons_succ]
    refine wpAnyH_ready (rs := [4]) (by kernel_rfl) (by simp) ?_
    refine AllReadyH.cons (o := ⟨_, _, _, _, _, _⟩) rfl (fun K hK => ?_) AllReadyH.nil
    go_simp
    refine hK.out _ _ ?_ (fun hHeld => ?_)
    · first | exact ⟨e0, e1⟩ | exact ⟨q0, q1⟩ | ((repeat' apply And.intro) <;> first | (go_keep; done) | (go_simp; done))
    clear hK K
    try simp only [Act.put, List.setIfInBounds_toArray, List.set_cons_zero, List.set_cons_succ]
    refine wpAnyH_ready (rs := [7]) (by kernel_rfl) (by simp) ?_
    refine AllReadyH.cons (o := ⟨_, _, _, _, _, _⟩) rfl (fun K hK => ?_) AllReadyH.nil
    refine step_append_any _ rfl (.tmp 11) (.tmp 13) _ rfl base 3 i0 _ 1 8 Try.underlying45 hi0 hz0 hz1 hz2 rfl (by omega) (.slice A1 m c1) m (iv Y) rfl (by first | exact KOd.out | exact KO.out) _ _ 1 1 (iv [i]) rfl (by first | exact KRd.out | exact KR.out) iv_one (by simp only [maxLen]; omega) (by omega) (Nat.le_trans hbase HSZ.out) ?_
    intro v1 w2 hown1 hg1 hat1
    obtain ⟨A3, c3, rfl, -⟩ := own_slice hown1
    have hO1 := Only.of_grown (S := fun b => some b = (Value.slice A1 m c1).ownBlock) hg1 (fun _ h => h)
    have B2 := hO1.blk KBd.out (fun h => NG.out h.symm)
    have q0 : w2.cell? ⟨bp, 0, none⟩ = some (.pointer (some ⟨g, 0, none⟩)) := (by rw [(hO1.blk K0d.out (fun h => N0.out h.symm)).cell]; rfl)
    have q1 : w2.cell? ⟨bi, 0, none⟩ = some (.int .i64 i) := (by rw [(hO1.blk K1d.out (fun h => N1.out h.symm)).cell]; rfl)
    have q2 : w2.cell? ⟨g, 2, none⟩ = some (.slice A1 m c1) := (by rw [B2.cell]; rfl)
    have q3 : w2.frozen? ⟨g, 2, none⟩ = false := B2.frozen 2
    have HB2 := Lib.hid B2
    have HN1 := Lib.hid hown1
    have HG1 := Lib.hid hO1
    have HA1 := Lib.hid hat1
    clear hown1 hg1 hat1 hO1 B2
    refine hK.out _ _ ?_ (fun hHeld => ?_)
    · first | exact ⟨e0, e1⟩ | exact ⟨q0, q1⟩ | ((repeat' apply And.intro) <;> first | (go_keep; done) | (go_simp; done))
    clear hK K
    try simp only [Act.put, List.setIfInBounds_toArray, List.set_cons_zero, List.set_cons_succ]
    refine wpAnyH_take (i := 8) (oi := ⟨_, _, _, _, _, _⟩) (v := ?_) rfl (by kernel_rfl) (by kernel_rfl) (by kernel_rfl) (fun _ _ _ h => h) (Or.inl ⟨by rfl, ?_⟩) (by assumption) ?_
    rotate_left
    · intro w hSw; (try dsimp only at hSw); go_split_ands; go_simp; try with_reducible rfl
    try simp only [Act.put, List.setIfInBounds_toArray, List.set_cons_zero, List.set_cons_succ]
    refine wpAnyH_take (i := 9) (oi := ⟨_, _, _, _, _, _⟩) (v := ?_) rfl (by kernel_rfl) (by kernel_rfl) (by kernel_rfl) (fun _ _ _ h => h) (Or.inl ⟨by rfl, ?_⟩) (by assumption) ?_
    rotate_left
    · intro w hSw; (try dsimp only at hSw); go_split_ands; go_simp; try with_reducible rfl
    try simp only [Act.put, List.setIfInBounds_toArray, List.set_cons_zero, List.set_cons_succ]
    refine wpAnyH_ready (rs := [10]) (by kernel_rfl) (by simp) ?_
    refine AllReadyH.cons (o := ⟨_, _, _, _, _, _⟩) rfl (fun K hK => ?_) AllReadyH.nil
    go_simp
    refine hK.out _ _ ?_ (fun hHeld => ?_)
    · first | exact ⟨e0, e1⟩ | exact ⟨q0, q1⟩ | ((repeat' apply And.intro) <;> first | (go_keep; done) | (go_simp; done))
    clear hK K
    try simp only [Act.put, List.setIfInBounds_toArray, List.set_cons_zero, List.set_cons_succ]
    refine wpAnyH_done (by kernel_rfl) ?_ _
    refine NoPanic.normal ?_
    go_end0
    have hO : Only (fun q => q = g ∨ q = b ∨ some q = (Value.slice A1 m c1).ownBlock) w w2 := (((HS.out.mono (fun _ _ h => .inr (.inl h))).alloc (.cells #[.int .i64 i] 3)).drew).trans (HG1.out.mono (fun _ _ h => .inr (.inr h))) (fun i _ h => h)
    have hSt : Only (fun q => q = g) w2 (w2.setCell ⟨g, 2, none⟩ (.slice A3 (m + 1) c3)) := Only.setCell (S := fun q => q = g) (p := ⟨g, 2, none⟩) (Only.refl _ w2) (.inr rfl) _
    refine ⟨rfl, _, ⟨HB2.out.set_ 2 _, ?_, ?_, ?_⟩, ?_, hO.setCell (p := ⟨g, 2, none⟩) (.inr (.inl rfl)) _⟩
    · exact hSt.own (HG1.out.own ((((Only.refl (fun _ => False) w1).alloc _).drew).own HO2.out (fun _ _ h => h)) (fun q hq h => HXY.out q hq h.symm)) (fun q hq h => ngb (by cases hq; exact h.symm))
    · rw [← iv_append]
      exact hSt.own HN1.out (fun q hq h => own_ne HN1.out HB2.out (by decide) (by rw [hq, h]))
    · intro q hq hy
      rcases HA1.out with h | h
      · exact HXY.out q hq (by rw [← h, hy])
      · rw [h] at hy
        cases hq
        have hlt := (HX.out.lt _ rfl).2
        have hle := HSZ.out
        have he : b = (w1.alloc (.cells #[.int .i64 i] 3)).heap.size := (Option.some.inj hy).symm
        exact absurd (Nat.lt_of_lt_of_le hlt hle) (by rw [← he]; exact Nat.lt_irrefl _)
    · rcases HA1.out with h | h
      · exact .inl h
      · exact .inr (fun q hq => by rw [h] at hq; cases hq; exact HSZ.out)
end Go.Proofs.Ytmmmhkpekaimeaa
