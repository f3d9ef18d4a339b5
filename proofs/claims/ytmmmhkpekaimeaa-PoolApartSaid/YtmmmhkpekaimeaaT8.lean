/- The value that comes of a call, with frames (trap.Value at error codes). -/
import Derived.Test.YtmmmhkpekaimeaaT6
import Derived.Test.YtmmmhkpekaimeaaT7
set_option linter.unusedVariables false
namespace Go.Proofs.Ytmmmhkpekaimeaa
open Go.ChangeShapes Go.WideShapes Go.ChangeAt Go.RowKit
set_option maxRecDepth 100000 in
set_option maxHeartbeats 2000000 in
theorem value1 (bf be n : Nat) (first cap : Array Value) (hen : ∀ args W, (callFunc n args).run Try.prog W = .ok (.enter n args) W) (o : Option (Int × Int)) (x : Int) (Q : World → Prop) (S : Nat → Prop) (w : World)
    (hf : Blk w bf 37 #[.func (.func n) first cap]) (he : Blk w be 25 #[.int .i64 0]) (hSe : ¬ S be) (hQ : ∀ w1 w', Q w1 → Only (fun b => b = be) w1 w' → Q w')
    (H : Calls Try.prog n (first ++ cap) w fun e w1 => e = ThrV (.int .i64 x) o ∧ Q w1 ∧ Only S w w1) :
    Calls Try.prog 58 #[.pointer (some ⟨bf, 0, none⟩), .pointer (some ⟨be, 0, none⟩)] w fun e w' => e = Thr o ∧ (Q w' ∧ Blk w' be 25 #[.int .i64 (eAt x o)]) ∧ Only (fun b => S b ∨ b = be) w w' := by
  have f0 : w.cell? ⟨bf, 0, none⟩ = some (.func (.func n) first cap) := by rw [hf.cell]; rfl
  have HH := Lib.hid H
  have HE := Lib.hid he
  have HSe := Lib.hid hSe
  have HQ := Lib.hid hQ
  clear H he hSe hQ hf
  go_enter Try.func58, Try.ntmps58
  go_wp2_with fail
  refine (HH.out).mono ?_
  intro e w1 hP
  obtain ⟨he, hq, ho⟩ := hP
  cases o with
  | none =>
    obtain rfl : e = .returned (.int .i64 x) := he
    have b1 := ho.blk HE.out HSe.out
    have e0 : w1.cell? ⟨be, 0, none⟩ = some (.int .i64 0) := by rw [b1.cell]; rfl
    have e1 : w1.frozen? ⟨be, 0, none⟩ = false := b1.frozen 0
    have HB1 := Lib.hid b1
    have HO := Lib.hid ho
    have HQQ := Lib.hid hq
    clear b1 ho hq f0
    go_wp2_with fail
    go_end0
    exact ⟨rfl, ⟨HQ.out _ _ HQQ.out ((Only.refl (fun b => b = be) w1).setCell (p := ⟨be, 0, none⟩) (.inr rfl) _), HB1.out.set_ 0 _⟩, (HO.out.mono (fun _ _ h => .inl h)).setCell (.inr (.inr rfl)) _⟩
  | some f =>
    obtain ⟨a, c⟩ := f
    obtain rfl : e = .panicked [{ v := flt a c, recovered := false }] := he
    exact ⟨rfl, rfl, ⟨hq, ho.blk HE.out HSe.out⟩, ho.mono (fun _ _ h => .inl h)⟩
set_option maxRecDepth 100000 in
set_option maxHeartbeats 2000000 in
theorem value_frame (n : FuncId) (first cap : Array Value) (hen : ∀ args W, (callFunc n args).run Try.prog W = .ok (.enter n args) W) (o : Option (Int × Int)) (x : Int) (Q : World → Prop) (S : Nat → Prop) (w : World)
    (hS : ∀ i, S i → i < w.heap.size) (hQ : ∀ w1 w', Q w1 → Only (fun b => w.heap.size ≤ b) w1 w' → Q w')
    (H : Calls Try.prog n (first ++ cap) (FD (CD (.func (.func n) first cap) w)) fun e w1 => e = ThrV (.int .i64 x) o ∧ Q w1 ∧ Only S (FD (CD (.func (.func n) first cap) w)) w1) :
    Calls Try.prog 21 #[.func (.func n) first cap] w fun e w' => e = .returned (.tuple #[.int .i64 (eAt x o), .int .i64 (codeOf 0 o)]) ∧ Q w' ∧ Only S w w' := by
  have hfn : ∀ W : World, (binOp .eql 37 (.func (.func n) first cap) .nilFunc).run Try.prog W = .ok (.bool false) W := fun W => by kernel_rfl
  have hmf : ∀ (fn : Fn) (first cap : Array Value) (w : World), (Instr.makeFunc fn first cap).run Try.prog w = .ok (.func fn first cap) w := fun _ _ _ _ => rfl
  have hC := catch_frame 58 #[] #[.pointer (some ⟨w.heap.size, 0, none⟩), .pointer (some ⟨w.heap.size + 1, 0, none⟩)] (fun args W => by kernel_rfl) o (fun W => Q W ∧ Blk W (w.heap.size + 1) 25 #[.int .i64 (eAt x o)]) (fun b => S b ∨ b = w.heap.size + 1) (CD (.func (.func n) first cap) w)
    (fun i h => by rw [CD_size]; exact h.elim (fun h => by have := hS i h; omega) (fun h => by omega))
    (value1 w.heap.size (w.heap.size + 1) n first cap hen o x Q S (FD (CD (.func (.func n) first cap) w)) ((FD_only (fun _ => False) _).blk (CD_f _ w) (fun h => h)) ((FD_only (fun _ => False) _).blk (CD_e _ w) (fun h => h)) (fun h => by have := hS _ h; omega) (fun w1 w' h1 h2 => hQ w1 w' h1 (h2.mono fun i _ h => by omega)) H)
    (fun w1 w' h1 h2 => ⟨hQ w1 w' h1.1 (h2.mono fun i _ h => by rw [CD_size] at h; omega), h2.blk h1.2 (fun h => by rw [CD_size] at h; omega)⟩)
  have HC := Lib.hid hC
  have HQ := Lib.hid hQ
  have HS := Lib.hid hS
  clear hC hQ hS H
  go_enter Try.func21, Try.ntmps21
  go_wp2_with fail
  refine (HC.out).mono ?_
  intro e w1 hP
  obtain ⟨he, ⟨hq, hbe⟩, ho⟩ := hP
  cases o with
  | none =>
    obtain rfl : e = .returned (.tuple #[.agg #[.int .i64 0, .int .i64 0], .bool false]) := he
    have e0 : w1.cell? ⟨w.heap.size + 1, 0, none⟩ = some (.int .i64 x) := by rw [hbe.cell]; rfl
    have z1 := hbe.lt
    have HO := Lib.hid ho
    have HQQ := Lib.hid hq
    clear hbe ho hq
    go_wp2_with fail
    go_ret2
    exact ⟨rfl, HQ.out _ _ HQQ.out (only_new _ _), ((CD_only S _ w).trans HO.out (fun i hi h => h.elim id (fun h => by omega))).alloc _⟩
  | some f =>
    obtain ⟨a, c⟩ := f
    obtain rfl : e = .returned (.tuple #[.agg #[.int .i64 a, .int .i64 c], .bool true]) := he
    have z1 := hbe.lt
    have HO := Lib.hid ho
    have HQQ := Lib.hid hq
    clear hbe ho hq
    go_wp2_with fail
    go_quiet (fail)
    go_wp2_with fail
    go_ret2
    exact ⟨rfl, HQ.out _ _ HQQ.out ((only_new _ _).drewN _), (((CD_only S _ w).trans HO.out (fun i hi h => h.elim id (fun h => by omega))).alloc _).drewN _⟩
theorem value_coded (g n c B : Nat) (A : Option Addr) (d0 code : Int) (S : List Int) (w : World) (hb : Blk w g 27 (dcells A n c d0 code)) (hr : Reads w B 5 A n (iv S)) (hBg : B ≤ g) (hS : Hid (okS S n)) (hn : n ≤ 1000) (hd : 0 ≤ d0 ∧ d0 ≤ 1000) :
    Calls Try.prog 21 #[.func (.func 20) #[.pointer (some ⟨g, 0, none⟩)] #[]] w fun e w' => e = .returned (.tuple #[.int .i64 (eAt code (allGo S n 0).1), .int .i64 (codeOf 0 (allGo S n 0).1)]) ∧ Blk w' g 27 (dcells A n c (d0 + ((allGo S n 0).2 : Int)) code) ∧ Only (fun b => b = g) w w' := by
  refine value_frame 20 #[.pointer (some ⟨g, 0, none⟩)] #[] (fun args W => by kernel_rfl) (allGo S n 0).1 code (fun w' => Blk w' g 27 (dcells A n c (d0 + ((allGo S n 0).2 : Int)) code)) (fun b => b = g) w (fun i h => by rw [h]; exact hb.lt) (fun w1 w' h1 h2 => h2.blk h1 (fun h => by have := hb.lt; omega)) ?_
  exact coded_any g n c B A d0 code S _ ((FD_only (fun _ => False) _).blk ((CD_only (fun _ => False) _ w).blk hb (fun h => h)) (fun h => h)) ((FD_only (fun _ => False) _).reads ((CD_only (fun _ => False) _ w).reads hr (by have := hb.lt; omega) (fun _ _ h => h)) (by rw [CD_size]; have := hb.lt; omega) (fun _ _ h => h)) hBg hS hn hd
end Go.Proofs.Ytmmmhkpekaimeaa
