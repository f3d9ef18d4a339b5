/- A pool of ints (layer 6): a node taken. -/
import Derived.Test.YtmmmhkpekaimeaaP1
import Derived.Test.YtmmmhkpekaimeaaT8
set_option linter.unusedVariables false
namespace Go.Proofs.Ytmmmhkpekaimeaa
open Go.ChangeShapes Go.WideShapes Go.ChangeAt Go.RowKit
def CI (fv : Value) (w : World) : World := (w.alloc (.cells #[fv] 61)).alloc (.cells #[.int .i64 0] 3)
theorem CI_size (fv : Value) (w : World) : (CI fv w).heap.size = w.heap.size + 2 := by simp [CI]
theorem CI_f (fv : Value) (w : World) : Blk (CI fv w) w.heap.size 61 #[fv] := (Blk.new w 61 _).alloc _
theorem CI_e (fv : Value) (w : World) : Blk (CI fv w) (w.heap.size + 1) 3 #[.int .i64 0] := by
  have h := Blk.new (w.alloc (.cells #[fv] 61)) 3 #[.int .i64 0]
  have hs : (w.alloc (.cells #[fv] 61)).heap.size = w.heap.size + 1 := by simp
  rw [hs] at h
  exact h
theorem CI_only (S : Nat → Prop) (fv : Value) (w : World) : Only S w (CI fv w) := ((Only.refl S w).alloc _).alloc _
theorem catch_frame2 (n : FuncId) (first cap : Array Value) (hen : ∀ args W, (callFunc n args).run Try.prog W = .ok (.enter n args) W) (o : Option (Int × Int)) (Q : World → Prop) (S : Nat → Prop) (w : World)
    (hS : ∀ i, S i → i < w.heap.size) (H : Calls Try.prog n (first ++ cap) (FD w) fun e w1 => e = Thr o ∧ Q w1 ∧ Only S (FD w) w1) (hQ : ∀ w1 w', Q w1 → Only (fun b => w.heap.size ≤ b ∧ b < w.heap.size + 2) w1 w' → Q w') :
    Calls Try.prog 16 #[.func (.func n) first cap] w fun e w' => e = .returned (.tuple #[fval o, .bool o.isSome]) ∧ Q w' ∧ Only S w w' := by
  refine (catch_any n first cap hen o (fun w1 => Q w1 ∧ Only S (FD w) w1) w (H.mono fun e w1 ⟨h1, h2, h3⟩ => ⟨h1, ⟨h2, h3⟩, h3.blk (FD_f w) (fun h => by have := hS _ h; omega), h3.blk (FD_t w) (fun h => by have := hS _ h; omega)⟩)).mono ?_
  intro e w' h
  obtain ⟨he, w1, ⟨h2, h3⟩, hz, h4⟩ := h
  refine ⟨he, hQ w1 w' h2 (h4.mono fun i hi h => by omega), ((FD_only S w).trans h3 (fun i _ h => h)).trans h4 (fun i hi h => by omega)⟩
set_option maxRecDepth 100000 in
set_option maxHeartbeats 2000000 in
theorem vint1 (bf be n : Nat) (first cap : Array Value) (hen : ∀ args W, (callFunc n args).run Try.prog W = .ok (.enter n args) W) (o : Option (Int × Int)) (x : Int) (Q : World → Prop) (S : Nat → Prop) (w : World)
    (hf : Blk w bf 61 #[.func (.func n) first cap]) (he : Blk w be 3 #[.int .i64 0]) (hSe : ¬ S be) (hQ : ∀ w1 w', Q w1 → Only (fun b => b = be) w1 w' → Q w')
    (H : Calls Try.prog n (first ++ cap) w fun e w1 => e = ThrV (.int .i64 x) o ∧ Q w1 ∧ Only S w w1) :
    Calls Try.prog 76 #[.pointer (some ⟨bf, 0, none⟩), .pointer (some ⟨be, 0, none⟩)] w fun e w' => e = Thr o ∧ (Q w' ∧ Blk w' be 3 #[.int .i64 (eAt x o)]) ∧ Only (fun b => S b ∨ b = be) w w' := by
  have f0 : w.cell? ⟨bf, 0, none⟩ = some (.func (.func n) first cap) := by rw [hf.cell]; rfl
  have HH := Lib.hid H
  have HE := Lib.hid he
  have HSe := Lib.hid hSe
  have HQ := Lib.hid hQ
  clear H he hSe hQ hf
  go_enter Try.func76, Try.ntmps76
  go_wp2_with fail
  refine (HH.out).mono ?_
  intro e w1 hP
  obtain ⟨he, hq, ho⟩ := hP
  cases o with
  | none =>
    obtain rfl : e = .returned (.int .i64 x) := he
    have b1 := ho.blk HE.out HSe.out
    have e0 : w1.cell? ⟨be, 0, none⟩ = some (.int .i64 0) := by rw [b1.cell]; rfl
    have e1 : w1.frozen? ⟨be, 0, none⟩ = false := b1.frozen 0
    have HB1 := Lib.hid b1
    have HO := Lib.hid ho
    have HQQ := Lib.hid hq
    clear b1 ho hq f0
    go_wp2_with fail
    go_end0
    exact ⟨rfl, ⟨HQ.out _ _ HQQ.out ((Only.refl (fun b => b = be) w1).setCell (p := ⟨be, 0, none⟩) (.inr rfl) _), HB1.out.set_ 0 _⟩, (HO.out.mono (fun _ _ h => .inl h)).setCell (.inr (.inr rfl)) _⟩
  | some f =>
    obtain ⟨a, c⟩ := f
    obtain rfl : e = .panicked [{ v := flt a c, recovered := false }] := he
    exact ⟨rfl, rfl, ⟨hq, ho.blk HE.out HSe.out⟩, ho.mono (fun _ _ h => .inl h)⟩
set_option maxRecDepth 100000 in
set_option maxHeartbeats 2000000 in
theorem vint_frame (n : FuncId) (first cap : Array Value) (hen : ∀ args W, (callFunc n args).run Try.prog W = .ok (.enter n args) W) (o : Option (Int × Int)) (x : Int) (Q : World → Prop) (S : Nat → Prop) (w : World)
    (hS : ∀ i, S i → i < w.heap.size) (hQ : ∀ w1 w', Q w1 → Only (fun b => w.heap.size ≤ b ∧ b < w.heap.size + 4) w1 w' → Q w')
    (H : Calls Try.prog n (first ++ cap) (FD (CI (.func (.func n) first cap) w)) fun e w1 => e = ThrV (.int .i64 x) o ∧ Q w1 ∧ Only S (FD (CI (.func (.func n) first cap) w)) w1) :
    Calls Try.prog 67 #[.func (.func n) first cap] w fun e w' => e = .returned (.tuple #[.int .i64 (eAt x o), .int .i64 (codeOf 0 o)]) ∧ Q w' ∧ Only S w w' := by
  have hfn : ∀ W : World, (binOp .eql 61 (.func (.func n) first cap) .nilFunc).run Try.prog W = .ok (.bool false) W := fun W => by kernel_rfl
  have hmf : ∀ (fn : Fn) (first cap : Array Value) (w : World), (Instr.makeFunc fn first cap).run Try.prog w = .ok (.func fn first cap) w := fun _ _ _ _ => rfl
  have hC := catch_frame2 76 #[] #[.pointer (some ⟨w.heap.size, 0, none⟩), .pointer (some ⟨w.heap.size + 1, 0, none⟩)] (fun args W => by kernel_rfl) o (fun W => Q W ∧ Blk W (w.heap.size + 1) 3 #[.int .i64 (eAt x o)]) (fun b => S b ∨ b = w.heap.size + 1) (CI (.func (.func n) first cap) w)
    (fun i h => by rw [CI_size]; exact h.elim (fun h => by have := hS i h; omega) (fun h => by omega))
    (vint1 w.heap.size (w.heap.size + 1) n first cap hen o x Q S (FD (CI (.func (.func n) first cap) w)) ((FD_only (fun _ => False) _).blk (CI_f _ w) (fun h => h)) ((FD_only (fun _ => False) _).blk (CI_e _ w) (fun h => h)) (fun h => by have := hS _ h; omega) (fun w1 w' h1 h2 => hQ w1 w' h1 (h2.mono fun i _ h => by omega)) H)
    (fun w1 w' h1 h2 => ⟨hQ w1 w' h1.1 (h2.mono fun i _ h => by rw [CI_size] at h; omega), h2.blk h1.2 (fun h => by rw [CI_size] at h; omega)⟩)
  have HC := Lib.hid hC
  have HQ := Lib.hid hQ
  have HS := Lib.hid hS
  clear hC hQ hS H
  go_enter Try.func67, Try.ntmps67
  go_wp2_with fail
  refine (HC.out).mono ?_
  intro e w1 hP
  obtain ⟨he, ⟨hq, hbe⟩, ho⟩ := hP
  cases o with
  | none =>
    obtain rfl : e = .returned (.tuple #[.agg #[.int .i64 0, .int .i64 0], .bool false]) := he
    have e0 : w1.cell? ⟨w.heap.size + 1, 0, none⟩ = some (.int .i64 x) := by rw [hbe.cell]; rfl
    have z1 := hbe.lt
    have HO := Lib.hid ho
    have HQQ := Lib.hid hq
    clear hbe ho hq
    go_wp2_with fail
    go_ret2
    exact ⟨rfl, HQ.out _ _ HQQ.out (only_new _ _), ((CI_only S _ w).trans HO.out (fun i hi h => h.elim id (fun h => by omega))).alloc _⟩
  | some f =>
    obtain ⟨a, c⟩ := f
    obtain rfl : e = .returned (.tuple #[.agg #[.int .i64 a, .int .i64 c], .bool true]) := he
    have z1 := hbe.lt
    have HO := Lib.hid ho
    have HQQ := Lib.hid hq
    clear hbe ho hq
    go_wp2_with fail
    go_quiet (fail)
    go_wp2_with fail
    go_ret2
    exact ⟨rfl, HQ.out _ _ HQQ.out ((only_new _ _).drewN _), (((CI_only S _ w).trans HO.out (fun i hi h => h.elim id (fun h => by omega))).alloc _).drewN _⟩
theorem nv_set : ∀ (l : List (Int × Bool)) (k : Nat) (a : Int) (t : Bool), ((nv l).set (k * 2) (.int .i64 a)).set (k * 2 + 1) (.bool t) = nv (l.set k (a, t))
  | [], k, a, t => by simp [nv]
  | (b, u) :: l, 0, a, t => by simp [nv]
  | (b, u) :: l, k + 1, a, t => by
      rw [show (k + 1) * 2 = k * 2 + 1 + 1 by omega]
      simp only [nv, List.set_cons_succ]
      rw [nv_set l k a t]
set_option maxRecDepth 100000 in
set_option maxHeartbeats 4000000 in
theorem take1_of (base g k n' m' p0 p1 : Nat) (most v : Int) (X' : List (Int × Bool)) (y' : Value) (Y' : List Int) (S : Nat → Prop) (w : World) (hk : k < n') (hn' : n' ≤ 1048576)
    (b0 : Blk w p0 51 #[.pointer (some ⟨g, 0, none⟩)]) (b1 : Blk w p1 3 #[.int .i64 v]) (hS0 : ¬ S p0) (hS1 : ¬ S p1)
    (hy1 : y'.ownBlock ≠ some p1)
    (H : Calls Try.prog 69 #[.pointer (some ⟨g, 0, none⟩)] w fun e w' => e = .returned (.int .i64 ((k : Int) + 1)) ∧ ∃ x', Pl w' base g most x' n' X' y' m' Y' ∧ Only S w w' ∧ ∀ b, x'.ownBlock = some b → w.heap.size ≤ b ∨ S b) :
    Calls Try.prog 68 #[.pointer (some ⟨p0, 0, none⟩), .pointer (some ⟨p1, 0, none⟩)] w fun e w' => e = .returned (.int .i64 ((k : Int) + 1)) ∧ (∃ x', Pl w' base g most x' n' (X'.set k (v, true)) y' m' Y' ∧ ∀ b, x'.ownBlock = some b → w.heap.size ≤ b ∨ S b) ∧ Only S w w' := by
  have c0 : w.cell? ⟨p0, 0, none⟩ = some (.pointer (some ⟨g, 0, none⟩)) := by rw [b0.cell]; rfl
  have HB0 := Lib.hid b0
  have HB1 := Lib.hid b1
  have HS0 := Lib.hid hS0
  have HS1 := Lib.hid hS1
  have HH := Lib.hid H
  clear b0 b1 hS0 hS1 H
  go_enter Try.func68, Try.ntmps68
  go_wp2_with fail
  refine (HH.out).mono ?_
  intro e w1 hP
  obtain ⟨rfl, x', ⟨hb, hx, hy, hxy⟩, ho, hat⟩ := hP
  obtain ⟨b3, c3, rfl, hb3, hb3l⟩ := hx.form (by omega)
  have d0 := ho.blk HB0.out HS0.out
  have d1 := ho.blk HB1.out HS1.out
  have e0 : w1.cell? ⟨p0, 0, none⟩ = some (.pointer (some ⟨g, 0, none⟩)) := by rw [d0.cell]; rfl
  have e1 : w1.cell? ⟨p1, 0, none⟩ = some (.int .i64 v) := by rw [d1.cell]; rfl
  have e2 : w1.cell? ⟨g, 1, none⟩ = some (.slice (some ⟨b3, 0, none⟩) n' c3) := by rw [hb.cell]; rfl
  have f0 : w1.frozen? ⟨b3, k * 2, none⟩ = false := hx.frozenAt _
  have f1 : w1.frozen? ⟨b3, k * 2 + 1, none⟩ = false := hx.frozenAt _
  obtain ⟨u0, hu0⟩ : ∃ u, w1.cell? ⟨b3, k * 2, none⟩ = some u := by
    rw [hx.cellAt _ (by omega)]
    exact ⟨_, List.getElem?_eq_getElem (by have := hx.1; omega)⟩
  obtain ⟨u1, hu1⟩ : ∃ u, w1.cell? ⟨b3, k * 2 + 1, none⟩ = some u := by
    rw [hx.cellAt _ (by omega)]
    exact ⟨_, List.getElem?_eq_getElem (by have := hx.1; omega)⟩
  have n0 : p0 ≠ b3 := fun h => own_ne hx d0 (by decide) (by rw [h]; rfl)
  have n1 : p1 ≠ b3 := fun h => own_ne hx d1 (by decide) (by rw [h]; rfl)
  have n2 : g ≠ b3 := fun h => own_ne hx hb (by decide) (by rw [h]; rfl)
  have n0' := n0.symm
  have n1' := n1.symm
  have n2' := n2.symm
  have s1 : IntKind.i64.wrap ((k : Int) + 1 - 1) = (k : Int) := by rw [Int.add_sub_cancel]; exact IntWalk.i64_in _ (by omega)
  have s2 : IntKind.i64.wrap (k : Int) = (k : Int) := IntWalk.i64_in _ (by omega)
  have i0 : (0 : Int) ≤ (k : Int) := by omega
  have i1 : (k : Int) < (n' : Int) := by omega
  have HX := Lib.hid hx
  have HB := Lib.hid hb
  have HY := Lib.hid hy
  have HXY := Lib.hid hxy
  have HO := Lib.hid ho
  have HAT := Lib.hid hat
  clear hx hb hy hxy ho hat d0 d1 c0 hb3 hb3l
  go_upto_region 2 with fail
  go_region_held3 (fun w' => w'.cell? ⟨p0, 0, none⟩ = some (.pointer (some ⟨g, 0, none⟩)) ∧ w'.cell? ⟨p1, 0, none⟩ = some (.int .i64 v) ∧ w'.cell? ⟨g, 1, none⟩ = some (.slice (some ⟨b3, 0, none⟩) n' c3) ∧ w'.frozen? ⟨b3, k * 2, none⟩ = false ∧ w'.frozen? ⟨b3, k * 2 + 1, none⟩ = false) (first | exact ⟨e0, e1, e2, f0, f1⟩ | ((repeat' apply And.intro) <;> first | (go_keep; done) | (go_simp; done))) (first | fail)
  go_wp2_with fail
  go_ret
  obtain ⟨o1, -⟩ := HX.out.stored (k * 2) (.int .i64 v)
  obtain ⟨o2, -⟩ := o1.stored (k * 2 + 1) (.bool true)
  rw [nv_set] at o2
  have hS : Only (fun b => b = b3) w1 (((w1.setCell ⟨b3, k * 2, none⟩ (.int .i64 v)).setCell ⟨b3, k * 2 + 1, none⟩ (.bool true)).drew) := ((Only.setCell (S := fun b => b = b3) (p := ⟨b3, k * 2, none⟩) (Only.refl _ w1) (.inr rfl) _).setCell (p := ⟨b3, k * 2 + 1, none⟩) (.inr rfl) _).drew
  refine ⟨rfl, ⟨_, ⟨hS.blk HB.out n2, ((Only.refl (fun _ => False) _).drew).own o2 (fun _ _ h => h), hS.own HY.out (fun kk hk h => HXY.out b3 rfl (by rw [hk, h])), HXY.out⟩, HAT.out⟩, ((HO.out.setCell (p := ⟨b3, k * 2, none⟩) (HAT.out b3 rfl) _).setCell (p := ⟨b3, k * 2 + 1, none⟩) (HAT.out b3 rfl) _).drew⟩
end Go.Proofs.Ytmmmhkpekaimeaa
