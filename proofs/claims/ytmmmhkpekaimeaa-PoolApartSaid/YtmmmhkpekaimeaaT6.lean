/- What is caught, and the code that comes of a call, with frames. -/
import Derived.Test.YtmmmhkpekaimeaaT3
set_option linter.unusedVariables false
namespace Go.Proofs.Ytmmmhkpekaimeaa
open Go.ChangeShapes Go.WideShapes Go.ChangeAt Go.RowKit
theorem FD_size (w : World) : (FD w).heap.size = w.heap.size + 2 := by simp [FD]
theorem FD_f (w : World) : Blk (FD w) w.heap.size 30 #[.int .i64 0, .int .i64 0] := (Blk.new w 30 _).alloc _
theorem FD_t (w : World) : Blk (FD w) (w.heap.size + 1) 4 #[.bool false] := by
  have h := Blk.new (w.alloc (.cells #[.int .i64 0, .int .i64 0] 30)) 4 #[.bool false]
  have hs : (w.alloc (.cells #[.int .i64 0, .int .i64 0] 30)).heap.size = w.heap.size + 1 := by simp
  rw [hs] at h
  exact h
theorem FD_only (S : Nat → Prop) (w : World) : Only S w (FD w) := ((Only.refl S w).alloc _).alloc _
theorem catch_frame (n : FuncId) (first cap : Array Value) (hen : ∀ args W, (callFunc n args).run Try.prog W = .ok (.enter n args) W) (o : Option (Int × Int)) (Q : World → Prop) (S : Nat → Prop) (w : World)
    (hS : ∀ i, S i → i < w.heap.size) (H : Calls Try.prog n (first ++ cap) (FD w) fun e w1 => e = Thr o ∧ Q w1 ∧ Only S (FD w) w1) (hQ : ∀ w1 w', Q w1 → Only (fun b => w.heap.size ≤ b) w1 w' → Q w') :
    Calls Try.prog 16 #[.func (.func n) first cap] w fun e w' => e = .returned (.tuple #[fval o, .bool o.isSome]) ∧ Q w' ∧ Only S w w' := by
  refine (catch_any n first cap hen o (fun w1 => Q w1 ∧ Only S (FD w) w1) w (H.mono fun e w1 ⟨h1, h2, h3⟩ => ⟨h1, ⟨h2, h3⟩, h3.blk (FD_f w) (fun h => by have := hS _ h; omega), h3.blk (FD_t w) (fun h => by have := hS _ h; omega)⟩)).mono ?_
  intro e w' h
  obtain ⟨he, w1, ⟨h2, h3⟩, hz, h4⟩ := h
  refine ⟨he, hQ w1 w' h2 (h4.mono fun i hi h => by omega), ((FD_only S w).trans h3 (fun i _ h => h)).trans h4 (fun i hi h => by omega)⟩
def ThrV (v : Value) : Option (Int × Int) → Ending
  | none => .returned v
  | some (a, c) => .panicked [{ v := flt a c, recovered := false }]
def codeOf (x : Int) : Option (Int × Int) → Int
  | none => x
  | some (_, c) => c
def eAt (x : Int) : Option (Int × Int) → Int
  | none => x
  | some _ => 0
set_option maxRecDepth 100000 in
set_option maxHeartbeats 2000000 in
theorem code1 (bf be n : Nat) (first cap : Array Value) (hen : ∀ args W, (callFunc n args).run Try.prog W = .ok (.enter n args) W) (o : Option (Int × Int)) (x : Int) (Q : World → Prop) (S : Nat → Prop) (w : World)
    (hf : Blk w bf 37 #[.func (.func n) first cap]) (he : Blk w be 25 #[.int .i64 0]) (hSe : ¬ S be) (hQ : ∀ w1 w', Q w1 → Only (fun b => b = be) w1 w' → Q w')
    (H : Calls Try.prog n (first ++ cap) w fun e w1 => e = ThrV (.int .i64 x) o ∧ Q w1 ∧ Only S w w1) :
    Calls Try.prog 57 #[.pointer (some ⟨bf, 0, none⟩), .pointer (some ⟨be, 0, none⟩)] w fun e w' => e = Thr o ∧ (Q w' ∧ Blk w' be 25 #[.int .i64 (eAt x o)]) ∧ Only (fun b => S b ∨ b = be) w w' := by
  have f0 : w.cell? ⟨bf, 0, none⟩ = some (.func (.func n) first cap) := by rw [hf.cell]; rfl
  have HH := Lib.hid H
  have HE := Lib.hid he
  have HSe := Lib.hid hSe
  have HQ := Lib.hid hQ
  clear H he hSe hQ hf
  go_enter Try.func57, Try.ntmps57
  go_wp2_with fail
  refine (HH.out).mono ?_
  intro e w1 hP
  obtain ⟨he, hq, ho⟩ := hP
  cases o with
  | none =>
    obtain rfl : e = .returned (.int .i64 x) := he
    have b1 := ho.blk HE.out HSe.out
    have e0 : w1.cell? ⟨be, 0, none⟩ = some (.int .i64 0) := by rw [b1.cell]; rfl
    have e1 : w1.frozen? ⟨be, 0, none⟩ = false := b1.frozen 0
    have HB1 := Lib.hid b1
    have HO := Lib.hid ho
    have HQQ := Lib.hid hq
    clear b1 ho hq f0
    go_wp2_with fail
    go_end0
    exact ⟨rfl, ⟨HQ.out _ _ HQQ.out ((Only.refl (fun b => b = be) w1).setCell (p := ⟨be, 0, none⟩) (.inr rfl) _), HB1.out.set_ 0 _⟩, (HO.out.mono (fun _ _ h => .inl h)).setCell (.inr (.inr rfl)) _⟩
  | some f =>
    obtain ⟨a, c⟩ := f
    obtain rfl : e = .panicked [{ v := flt a c, recovered := false }] := he
    exact ⟨rfl, rfl, ⟨hq, ho.blk HE.out HSe.out⟩, ho.mono (fun _ _ h => .inl h)⟩
def CD (fv : Value) (w : World) : World := (w.alloc (.cells #[fv] 37)).alloc (.cells #[.int .i64 0] 25)
theorem CD_size (fv : Value) (w : World) : (CD fv w).heap.size = w.heap.size + 2 := by simp [CD]
theorem CD_f (fv : Value) (w : World) : Blk (CD fv w) w.heap.size 37 #[fv] := (Blk.new w 37 _).alloc _
theorem CD_e (fv : Value) (w : World) : Blk (CD fv w) (w.heap.size + 1) 25 #[.int .i64 0] := by
  have h := Blk.new (w.alloc (.cells #[fv] 37)) 25 #[.int .i64 0]
  have hs : (w.alloc (.cells #[fv] 37)).heap.size = w.heap.size + 1 := by simp
  rw [hs] at h
  exact h
theorem CD_only (S : Nat → Prop) (fv : Value) (w : World) : Only S w (CD fv w) := ((Only.refl S w).alloc _).alloc _
set_option maxRecDepth 100000 in
set_option maxHeartbeats 2000000 in
theorem code_frame (n : FuncId) (first cap : Array Value) (hen : ∀ args W, (callFunc n args).run Try.prog W = .ok (.enter n args) W) (o : Option (Int × Int)) (x : Int) (Q : World → Prop) (S : Nat → Prop) (w : World)
    (hS : ∀ i, S i → i < w.heap.size) (hQ : ∀ w1 w', Q w1 → Only (fun b => w.heap.size ≤ b) w1 w' → Q w')
    (H : Calls Try.prog n (first ++ cap) (FD (CD (.func (.func n) first cap) w)) fun e w1 => e = ThrV (.int .i64 x) o ∧ Q w1 ∧ Only S (FD (CD (.func (.func n) first cap) w)) w1) :
    Calls Try.prog 19 #[.func (.func n) first cap] w fun e w' => e = .returned (.int .i64 (codeOf x o)) ∧ Q w' ∧ Only S w w' := by
  have hfn : ∀ W : World, (binOp .eql 37 (.func (.func n) first cap) .nilFunc).run Try.prog W = .ok (.bool false) W := fun W => by kernel_rfl
  have hmf : ∀ (fn : Fn) (first cap : Array Value) (w : World), (Instr.makeFunc fn first cap).run Try.prog w = .ok (.func fn first cap) w := fun _ _ _ _ => rfl
  have hC := catch_frame 57 #[] #[.pointer (some ⟨w.heap.size, 0, none⟩), .pointer (some ⟨w.heap.size + 1, 0, none⟩)] (fun args W => by kernel_rfl) o (fun W => Q W ∧ Blk W (w.heap.size + 1) 25 #[.int .i64 (eAt x o)]) (fun b => S b ∨ b = w.heap.size + 1) (CD (.func (.func n) first cap) w)
    (fun i h => by rw [CD_size]; exact h.elim (fun h => by have := hS i h; omega) (fun h => by omega))
    (code1 w.heap.size (w.heap.size + 1) n first cap hen o x Q S (FD (CD (.func (.func n) first cap) w)) ((FD_only (fun _ => False) _).blk (CD_f _ w) (fun h => h)) ((FD_only (fun _ => False) _).blk (CD_e _ w) (fun h => h)) (fun h => by have := hS _ h; omega) (fun w1 w' h1 h2 => hQ w1 w' h1 (h2.mono fun i _ h => by omega)) H)
    (fun w1 w' h1 h2 => ⟨hQ w1 w' h1.1 (h2.mono fun i _ h => by rw [CD_size] at h; omega), h2.blk h1.2 (fun h => by rw [CD_size] at h; omega)⟩)
  have HC := Lib.hid hC
  have HQ := Lib.hid hQ
  have HS := Lib.hid hS
  clear hC hQ hS H
  go_enter Try.func19, Try.ntmps19
  go_wp2_with fail
  refine (HC.out).mono ?_
  intro e w1 hP
  obtain ⟨he, ⟨hq, hbe⟩, ho⟩ := hP
  cases o with
  | none =>
    obtain rfl : e = .returned (.tuple #[.agg #[.int .i64 0, .int .i64 0], .bool false]) := he
    have e0 : w1.cell? ⟨w.heap.size + 1, 0, none⟩ = some (.int .i64 x) := by rw [hbe.cell]; rfl
    have z1 := hbe.lt
    have HO := Lib.hid ho
    have HQQ := Lib.hid hq
    clear hbe ho hq
    go_wp2_with fail
    go_ret
    exact ⟨rfl, HQ.out _ _ HQQ.out (only_new _ _), ((CD_only S _ w).trans HO.out (fun i hi h => h.elim id (fun h => by omega))).alloc _⟩
  | some f =>
    obtain ⟨a, c⟩ := f
    obtain rfl : e = .returned (.tuple #[.agg #[.int .i64 a, .int .i64 c], .bool true]) := he
    have z1 := hbe.lt
    have HO := Lib.hid ho
    have HQQ := Lib.hid hq
    clear hbe ho hq
    go_wp2_with fail
    go_ret
    exact ⟨rfl, HQ.out _ _ HQQ.out (only_new _ _), ((CD_only S _ w).trans HO.out (fun i hi h => h.elim id (fun h => by omega))).alloc _⟩
end Go.Proofs.Ytmmmhkpekaimeaa
