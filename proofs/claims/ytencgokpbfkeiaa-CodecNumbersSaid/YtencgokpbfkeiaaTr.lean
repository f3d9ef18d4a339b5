/- Calls that throw nothing, caught (layer 5): trap.Catch, trap.Code. -/
import Derived.Test.YtencgokpbfkeiaaQ
import Derived.Test.YtencgokpbfkeiaaRows
import Derived.WalkKit
import Derived.Outline
import Derived.Defers
import Derived.Recover
import Derived.WalkSmall
set_option linter.unusedVariables false
namespace Go.Proofs.Ytencgokpbfkeiaa
open Go.ChangeShapes Go.WideShapes Go.ChangeAt Go.RowKit
set_option maxHeartbeats 1000000 in
theorem catch1_idle (p q : Addr) (w : World) :
    CallsD Try.prog 117 #[.pointer (some p), .pointer (some q)] .returning w fun e u' w' => e = .returned (.tuple #[]) ∧ u' = .returning ∧ w' = w := by
  refine callsD_of_wpS Try.func117 rfl fun c₀ cs hu => ?_
  apply wpS_seq
  apply wpS_region
  simp [wpOpsS, go_sem, recoverD, hu, Try.ntmps117, Exit.thenS]
  rw [show (#[Value.pointer (some p), Value.pointer (some q)] ++ ((Array.replicate 6 undef).setIfInBounds 1 Value.nilIface).setIfInBounds 0 Value.nilIface) = #[.pointer (some p), .pointer (some q), .nilIface, .nilIface, undef, undef, undef, undef] from rfl]
  refine wpS_of_wp ?_
  go_wp2
  cases c₀
  simp_all [bodyPostS, results, Try.results117]
def FD (w : World) : World := (w.alloc (.cells #[.int .i64 0, .int .i64 0] 148)).alloc (.cells #[.bool false] 4)
theorem FD_size (w : World) : (FD w).heap.size = w.heap.size + 2 := by simp [FD]
theorem FD_f (w : World) : Blk (FD w) w.heap.size 148 #[.int .i64 0, .int .i64 0] := (Blk.new w 148 _).alloc _
theorem FD_t (w : World) : Blk (FD w) (w.heap.size + 1) 4 #[.bool false] := by
  have h := Blk.new (w.alloc (.cells #[.int .i64 0, .int .i64 0] 148)) 4 #[.bool false]
  have hs : (w.alloc (.cells #[.int .i64 0, .int .i64 0] 148)).heap.size = w.heap.size + 1 := by simp
  rw [hs] at h
  exact h
theorem FD_only (S : Nat → Prop) (w : World) : Only S w (FD w) := ((Only.refl S w).alloc _).alloc _
set_option maxRecDepth 100000 in
set_option maxHeartbeats 2000000 in
/-- what is called returns, and leaves what it may leave: so does Catch -/
theorem catch_ret (n : FuncId) (first cap : Array Value) (hen : ∀ args W, (callFunc n args).run Try.prog W = .ok (.enter n args) W) (Q : World → Prop) (S : Nat → Prop) (w : World)
    (hS : ∀ i, S i → i < w.heap.size) (H : Calls Try.prog n (first ++ cap) (FD w) fun e w1 => e = .returned (.tuple #[]) ∧ Q w1 ∧ Only S (FD w) w1) (hQ : ∀ w1 w', Q w1 → Only (fun b => w.heap.size ≤ b) w1 w' → Q w') :
    Calls Try.prog 109 #[.func (.func n) first cap] w fun e w' => e = .returned (.tuple #[.agg #[.int .i64 0, .int .i64 0], .bool false]) ∧ Q w' ∧ Only S w w' := by
  have hmf : ∀ (fn : Fn) (first cap : Array Value) (w : World), (Instr.makeFunc fn first cap).run Try.prog w = .ok (.func fn first cap) w := fun _ _ _ _ => rfl
  have hfn : ∀ W : World, (binOp .eql 1 (.func (.func n) first cap) .nilFunc).run Try.prog W = .ok (.bool false) W := fun W => by kernel_rfl
  have HH := Lib.hid H
  have HS := Lib.hid hS
  have HQ := Lib.hid hQ
  clear H hS hQ
  go_enter_defers Try.func109, Try.ntmps109
  go_wp2_with fail
  refine (HH.out).mono ?_
  intro e w1 hP
  obtain ⟨he, hq0, ho⟩ := hP
  obtain rfl : e = .returned (.tuple #[]) := he
  have hp := ho.blk (FD_f w) (fun h => by have := HS.out _ h; omega)
  have hq := ho.blk (FD_t w) (fun h => by have := HS.out _ h; omega)
  have hne : w.heap.size ≠ w.heap.size + 1 := by omega
  have c0 : w1.cell? ⟨w.heap.size, 0, none⟩ = some (.int .i64 0) := by rw [hp.cell]; rfl
  have c1 : w1.cell? ⟨w.heap.size, 1, none⟩ = some (.int .i64 0) := by rw [hp.cell]; rfl
  have c2 : w1.cell? ⟨w.heap.size + 1, 0, none⟩ = some (.bool false) := by rw [hq.cell]; rfl
  have f0 : w1.frozen? ⟨w.heap.size, 0, none⟩ = false := hp.frozen 0
  have f1 : w1.frozen? ⟨w.heap.size, 1, none⟩ = false := hp.frozen 1
  have f2 : w1.frozen? ⟨w.heap.size + 1, 0, none⟩ = false := hq.frozen 0
  have P1 := Lib.hid hp
  have Q1 := Lib.hid hq
  have HO := Lib.hid ho
  have HQ0 := Lib.hid hq0
  clear hp hq ho hq0
  go_wp2_with fail
  have P2 : Blk (((w1.setCell ⟨w.heap.size, 0, none⟩ (.int .i64 0)).setCell ⟨w.heap.size, 1, none⟩ (.int .i64 0)).setCell ⟨w.heap.size + 1, 0, none⟩ (.bool false)) w.heap.size 148 #[.int .i64 0, .int .i64 0] := (((P1.out.set_ 0 _).set_ 1 _).far hne _)
  have Q2 : Blk (((w1.setCell ⟨w.heap.size, 0, none⟩ (.int .i64 0)).setCell ⟨w.heap.size, 1, none⟩ (.int .i64 0)).setCell ⟨w.heap.size + 1, 0, none⟩ (.bool false)) (w.heap.size + 1) 4 #[.bool false] := (((Q1.out.far (fun h => hne h.symm) _).far (fun h => hne h.symm) _).set_ 0 _)
  have O2 : Only (fun b => b = w.heap.size ∨ b = w.heap.size + 1) w1 (((w1.setCell ⟨w.heap.size, 0, none⟩ (.int .i64 0)).setCell ⟨w.heap.size, 1, none⟩ (.int .i64 0)).setCell ⟨w.heap.size + 1, 0, none⟩ (.bool false)) := (((Only.refl _ _).setCell (.inr (.inl rfl)) _).setCell (.inr (.inl rfl)) _).setCell (.inr (.inr rfl)) _
  generalize ((w1.setCell ⟨w.heap.size, 0, none⟩ (.int .i64 0)).setCell ⟨w.heap.size, 1, none⟩ (.int .i64 0)).setCell ⟨w.heap.size + 1, 0, none⟩ (.bool false) = w2 at *
  refine leaves_cons (f := 117) (args := #[.pointer (some ⟨w.heap.size, 0, none⟩), .pointer (some ⟨w.heap.size + 1, 0, none⟩)]) (by simp) (by simp [go_sem]) ?_
  refine (catch1_idle _ _ _).mono ?_
  rintro e u' w'' ⟨rfl, rfl, rfl⟩
  have d0 : w''.cell? ⟨w.heap.size, 0, none⟩ = some (.int .i64 0) := by rw [P2.cell]; rfl
  have d1 : w''.cell? ⟨w.heap.size, 1, none⟩ = some (.int .i64 0) := by rw [P2.cell]; rfl
  have d2 : w''.cell? ⟨w.heap.size + 1, 0, none⟩ = some (.bool false) := by rw [Q2.cell]; rfl
  refine ⟨.tuple #[.agg #[.int .i64 0, .int .i64 0], .bool false], by simp [results, Try.results109, go_sem, d0, d1, d2], rfl, HQ.out _ _ HQ0.out (O2.mono fun i hi h => by omega), ((FD_only S w).trans HO.out (fun i _ h => h)).trans O2 (fun i hi h => by omega)⟩
set_option maxRecDepth 100000 in
set_option maxHeartbeats 2000000 in
theorem code1 (bf be n : Nat) (first cap : Array Value) (hen : ∀ args W, (callFunc n args).run Try.prog W = .ok (.enter n args) W) (x : Int) (Q : World → Prop) (S : Nat → Prop) (w : World)
    (hf : Blk w bf 93 #[.func (.func n) first cap]) (he : Blk w be 32 #[.int .i64 0]) (hSe : ¬ S be) (hQ : ∀ w1 w', Q w1 → Only (fun b => b = be) w1 w' → Q w')
    (H : Calls Try.prog n (first ++ cap) w fun e w1 => e = .returned (.int .i64 x) ∧ Q w1 ∧ Only S w w1) :
    Calls Try.prog 110 #[.pointer (some ⟨bf, 0, none⟩), .pointer (some ⟨be, 0, none⟩)] w fun e w' => e = .returned (.tuple #[]) ∧ (Q w' ∧ Blk w' be 32 #[.int .i64 x]) ∧ Only (fun b => S b ∨ b = be) w w' := by
  have f0 : w.cell? ⟨bf, 0, none⟩ = some (.func (.func n) first cap) := by rw [hf.cell]; rfl
  have HH := Lib.hid H
  have HE := Lib.hid he
  have HSe := Lib.hid hSe
  have HQ := Lib.hid hQ
  clear H he hSe hQ hf
  go_enter Try.func110, Try.ntmps110
  go_wp2_with fail
  refine (HH.out).mono ?_
  intro e w1 hP
  obtain ⟨he, hq, ho⟩ := hP
  obtain rfl : e = .returned (.int .i64 x) := he
  have b1 := ho.blk HE.out HSe.out
  have e0 : w1.cell? ⟨be, 0, none⟩ = some (.int .i64 0) := by rw [b1.cell]; rfl
  have e1 : w1.frozen? ⟨be, 0, none⟩ = false := b1.frozen 0
  have HB1 := Lib.hid b1
  have HO := Lib.hid ho
  have HQQ := Lib.hid hq
  clear b1 ho hq f0
  go_wp2_with fail
  go_end0
  exact ⟨rfl, ⟨HQ.out _ _ HQQ.out ((Only.refl (fun b => b = be) w1).setCell (p := ⟨be, 0, none⟩) (.inr rfl) _), HB1.out.set_ 0 _⟩, (HO.out.mono (fun _ _ h => .inl h)).setCell (.inr (.inr rfl)) _⟩
def CD (fv : Value) (w : World) : World := (w.alloc (.cells #[fv] 93)).alloc (.cells #[.int .i64 0] 32)
theorem CD_size (fv : Value) (w : World) : (CD fv w).heap.size = w.heap.size + 2 := by simp [CD]
theorem CD_f (fv : Value) (w : World) : Blk (CD fv w) w.heap.size 93 #[fv] := (Blk.new w 93 _).alloc _
theorem CD_e (fv : Value) (w : World) : Blk (CD fv w) (w.heap.size + 1) 32 #[.int .i64 0] := by
  have h := Blk.new (w.alloc (.cells #[fv] 93)) 32 #[.int .i64 0]
  have hs : (w.alloc (.cells #[fv] 93)).heap.size = w.heap.size + 1 := by simp
  rw [hs] at h
  exact h
theorem CD_only (S : Nat → Prop) (fv : Value) (w : World) : Only S w (CD fv w) := ((Only.refl S w).alloc _).alloc _
set_option maxRecDepth 100000 in
set_option maxHeartbeats 2000000 in
/-- what is called answers a code, and leaves what it may leave: so does Code -/
theorem code_ret (n : FuncId) (first cap : Array Value) (hen : ∀ args W, (callFunc n args).run Try.prog W = .ok (.enter n args) W) (x : Int) (Q : World → Prop) (S : Nat → Prop) (w : World)
    (hS : ∀ i, S i → i < w.heap.size) (hQ : ∀ w1 w', Q w1 → Only (fun b => w.heap.size ≤ b) w1 w' → Q w')
    (H : Calls Try.prog n (first ++ cap) (FD (CD (.func (.func n) first cap) w)) fun e w1 => e = .returned (.int .i64 x) ∧ Q w1 ∧ Only S (FD (CD (.func (.func n) first cap) w)) w1) :
    Calls Try.prog 93 #[.func (.func n) first cap] w fun e w' => e = .returned (.int .i64 x) ∧ Q w' ∧ Only S w w' := by
  have hfn : ∀ W : World, (binOp .eql 93 (.func (.func n) first cap) .nilFunc).run Try.prog W = .ok (.bool false) W := fun W => by kernel_rfl
  have hmf : ∀ (fn : Fn) (first cap : Array Value) (w : World), (Instr.makeFunc fn first cap).run Try.prog w = .ok (.func fn first cap) w := fun _ _ _ _ => rfl
  have hC := catch_ret 110 #[] #[.pointer (some ⟨w.heap.size, 0, none⟩), .pointer (some ⟨w.heap.size + 1, 0, none⟩)] (fun args W => by kernel_rfl) (fun W => Q W ∧ Blk W (w.heap.size + 1) 32 #[.int .i64 x]) (fun b => S b ∨ b = w.heap.size + 1) (CD (.func (.func n) first cap) w)
    (fun i h => by rw [CD_size]; exact h.elim (fun h => by have := hS i h; omega) (fun h => by omega))
    (code1 w.heap.size (w.heap.size + 1) n first cap hen x Q S (FD (CD (.func (.func n) first cap) w)) ((FD_only (fun _ => False) _).blk (CD_f _ w) (fun h => h)) ((FD_only (fun _ => False) _).blk (CD_e _ w) (fun h => h)) (fun h => by have := hS _ h; omega) (fun w1 w' h1 h2 => hQ w1 w' h1 (h2.mono fun i _ h => by omega)) H)
    (fun w1 w' h1 h2 => ⟨hQ w1 w' h1.1 (h2.mono fun i _ h => by rw [CD_size] at h; omega), h2.blk h1.2 (fun h => by rw [CD_size] at h; omega)⟩)
  have HC := Lib.hid hC
  have HQ := Lib.hid hQ
  have HS := Lib.hid hS
  clear hC hQ hS H
  go_enter Try.func93, Try.ntmps93
  go_wp2_with fail
  refine (HC.out).mono ?_
  intro e w1 hP
  obtain ⟨he, ⟨hq, hbe⟩, ho⟩ := hP
  obtain rfl : e = .returned (.tuple #[.agg #[.int .i64 0, .int .i64 0], .bool false]) := he
  have e0 : w1.cell? ⟨w.heap.size + 1, 0, none⟩ = some (.int .i64 x) := by rw [hbe.cell]; rfl
  have z1 := hbe.lt
  have HO := Lib.hid ho
  have HQQ := Lib.hid hq
  clear hbe ho hq
  go_wp2_with fail
  go_ret
  exact ⟨rfl, HQ.out _ _ HQQ.out (only_new _ _), ((CD_only S _ w).trans HO.out (fun i hi h => h.elim id (fun h => by omega))).alloc _⟩
end Go.Proofs.Ytencgokpbfkeiaa
