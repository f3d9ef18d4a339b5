/- What is caught of what is thrown (trap.Catch), whatever is called. -/
import Derived.Test.YtmmmhkpekaimeaaO
import Derived.Test.YtmmmhkpekaimeaaRows
import Derived.WalkKit
import Derived.Outline
import Derived.Defers
import Derived.Recover
import Derived.WalkSmall
set_option linter.unusedVariables false
namespace Go.Proofs.Ytmmmhkpekaimeaa
open Go.ChangeShapes Go.WideShapes Go.ChangeAt Go.RowKit
def flt (a c : Int) : Value := .iface 30 (.agg #[.int .i64 a, .int .i64 c])
set_option maxRecDepth 100000 in
set_option maxHeartbeats 1000000 in
theorem meant_fault (a c : Int) (w : World) : Calls Try.prog 54 #[.iface 30 (.agg #[.int .i64 a, .int .i64 c])] w fun e w' => e = .returned (.agg #[.int .i64 a, .int .i64 c]) ∧ Below w.heap.size w w' := by
  have hta : ∀ W : World, (Instr.typeAssert (.iface 30 (.agg #[.int .i64 a, .int .i64 c])) 20 30 true).run Try.prog W = .ok (.tuple #[.agg #[.int .i64 a, .int .i64 c], .bool true]) W := fun _ => by kernel_rfl
  go_enter Try.func54, Try.ntmps54
  go_wp2
  exact bodyPost_ret (v := .agg #[.int .i64 a, .int .i64 c]) (by simp [results, Try.results54, go_sem]) rfl ⟨rfl, (by repeat (first | with_reducible exact Below.refl _ _ | with_reducible assumption | with_reducible refine Below.setCell ?_ (by first | omega | (simp <;> omega)) _ | with_reducible refine below_drewN ?_ _ | with_reducible refine Below.drew ?_ | with_reducible refine Below.alloc ?_ (by first | omega | (simp <;> omega)) _))⟩
set_option maxHeartbeats 1000000 in
theorem throw_no (a : Int) (w : World) : Calls Try.prog 75 #[.int .i64 a, .int .i64 0] w fun e w' => e = .returned (.tuple #[]) ∧ w = w' := by
  go_enter Try.func75, Try.ntmps75
  go_wp2
  go_end0
  exact ⟨rfl, rfl⟩
set_option maxHeartbeats 1000000 in
theorem throw_yes (a c : Int) (hc : ((c : Int) != 0) = true) (w : World) : Calls Try.prog 75 #[.int .i64 a, .int .i64 c] w fun e w' => e = .panicked [{ v := flt a c, recovered := false }] ∧ w = w' := by
  go_enter Try.func75, Try.ntmps75
  go_wp2
  exact ⟨rfl, rfl, rfl⟩
set_option maxHeartbeats 1000000 in
theorem catch1_idle (p q : Addr) (w : World) :
    CallsD Try.prog 53 #[.pointer (some p), .pointer (some q)] .returning w fun e u' w' => e = .returned (.tuple #[]) ∧ u' = .returning ∧ w' = w := by
  refine callsD_of_wpS Try.func53 rfl fun c₀ cs hu => ?_
  apply wpS_seq
  apply wpS_region
  simp [wpOpsS, go_sem, recoverD, hu, Try.ntmps53, Exit.thenS]
  rw [show (#[Value.pointer (some p), Value.pointer (some q)] ++ ((Array.replicate 6 undef).setIfInBounds 1 Value.nilIface).setIfInBounds 0 Value.nilIface) = #[.pointer (some p), .pointer (some q), .nilIface, .nilIface, undef, undef, undef, undef] from rfl]
  refine wpS_of_wp ?_
  go_wp2
  cases c₀
  simp_all [bodyPostS, results, Try.results53]
set_option maxHeartbeats 2000000 in
theorem catch1_thrown (p q : Nat) (x y x0 y0 : Int) (b0 : Bool) (older : List PanicEntry) (w : World) (hp : Blk w p 30 #[.int .i64 x0, .int .i64 y0]) (hq : Blk w q 4 #[.bool b0]) :
    CallsD Try.prog 53 #[.pointer (some ⟨p, 0, none⟩), .pointer (some ⟨q, 0, none⟩)] (.panicking ({ v := flt x y, recovered := false } :: older)) w fun e u' w' => e = .returned (.tuple #[]) ∧ u' = .panicking ({ v := flt x y, recovered := true } :: older) ∧
      Blk w' p 30 #[.int .i64 x, .int .i64 y] ∧ Blk w' q 4 #[.bool true] ∧ Only (fun b => b = p ∨ b = q) w w' := by
  unfold flt
  refine callsD_of_wpS Try.func53 rfl fun c₀ cs hu => ?_
  apply wpS_seq
  apply wpS_region
  simp [wpOpsS, go_sem, recoverD, hu, Try.ntmps53, Exit.thenS]
  rw [show (#[Value.pointer (some { block := p, off := 0 }), Value.pointer (some { block := q, off := 0 })] ++ ((Array.replicate 6 undef).setIfInBounds 1 (Value.iface 30 (Value.agg #[Value.int IntKind.i64 x, Value.int IntKind.i64 y]))).setIfInBounds 0 (Value.iface 30 (Value.agg #[Value.int IntKind.i64 x, Value.int IntKind.i64 y]))) = #[.pointer (some ⟨p, 0, none⟩), .pointer (some ⟨q, 0, none⟩), .iface 30 (.agg #[.int .i64 x, .int .i64 y]), .iface 30 (.agg #[.int .i64 x, .int .i64 y]), undef, undef, undef, undef] from rfl]
  refine wpS_of_wp ?_
  go_wp2_with fail
  refine (meant_fault _ _ _).mono ?_
  rintro e w1 ⟨rfl, hb1⟩
  have p1 := hp.below hb1 hp.lt
  have q1 := hq.below hb1 hq.lt
  have hne : p ≠ q := Blk.ne_ hp hq (by decide)
  have c0 : w1.cell? ⟨p, 0, none⟩ = some (.int .i64 x0) := by rw [p1.cell]; rfl
  have c1 : w1.cell? ⟨p, 1, none⟩ = some (.int .i64 y0) := by rw [p1.cell]; rfl
  have c2 : w1.cell? ⟨q, 0, none⟩ = some (.bool b0) := by rw [q1.cell]; rfl
  have f0 : w1.frozen? ⟨p, 0, none⟩ = false := p1.frozen 0
  have f1 : w1.frozen? ⟨p, 1, none⟩ = false := p1.frozen 1
  have f2 : w1.frozen? ⟨q, 0, none⟩ = false := q1.frozen 0
  have P1 := Lib.hid p1
  have Q1 := Lib.hid q1
  have B1 := Lib.hid hb1
  have HU := Lib.hid hu
  clear p1 q1 hb1 hu hp hq
  go_wp2_with fail
  refine ⟨rfl, _, rfl, .tuple #[], by simp [results, Try.results53, go_sem], rfl, rfl, ?_, ?_, ?_⟩
  · exact (((P1.out.set_ 0 _).set_ 1 _).far hne _)
  · exact (((Q1.out.far (fun h => hne h.symm) _).far (fun h => hne h.symm) _).set_ 0 _)
  · exact (((Only.of_below B1.out).setCell (.inr (.inl rfl)) _).setCell (.inr (.inl rfl)) _).setCell (.inr (.inr rfl)) _
def CatchQ (w : World) (R : World → Prop) (a c : Int) (is : Bool) (e : Ending) (w' : World) : Prop :=
  e = .returned (.tuple #[.agg #[.int .i64 a, .int .i64 c], .bool is]) ∧ ∃ w1, R w1 ∧ w.heap.size + 2 ≤ w1.heap.size ∧ Only (fun b => b = w.heap.size ∨ b = w.heap.size + 1) w1 w'
def FD (w : World) : World := (w.alloc (.cells #[.int .i64 0, .int .i64 0] 30)).alloc (.cells #[.bool false] 4)
set_option maxRecDepth 100000 in
set_option maxHeartbeats 2000000 in
theorem catch_ret (n : FuncId) (first cap : Array Value) (hen : ∀ args W, (callFunc n args).run Try.prog W = .ok (.enter n args) W) (R : World → Prop) (w : World)
    (H : Hid (Calls Try.prog n (first ++ cap) (FD w) fun e w1 => e = .returned (.tuple #[]) ∧ R w1 ∧ Blk w1 w.heap.size 30 #[.int .i64 0, .int .i64 0] ∧ Blk w1 (w.heap.size + 1) 4 #[.bool false])) :
    Calls Try.prog 16 #[.func (.func n) first cap] w (CatchQ w R 0 0 false) := by
  have hmf : ∀ (fn : Fn) (first cap : Array Value) (w : World), (Instr.makeFunc fn first cap).run Try.prog w = .ok (.func fn first cap) w := fun _ _ _ _ => rfl
  have hfn : ∀ W : World, (binOp .eql 1 (.func (.func n) first cap) .nilFunc).run Try.prog W = .ok (.bool false) W := fun W => by kernel_rfl
  go_enter_defers Try.func16, Try.ntmps16
  go_wp2_with fail
  refine (H.out).mono ?_
  rintro e w1 ⟨rfl, hR, hp, hq⟩
  have hne : w.heap.size ≠ w.heap.size + 1 := by omega
  have c0 : w1.cell? ⟨w.heap.size, 0, none⟩ = some (.int .i64 0) := by rw [hp.cell]; rfl
  have c1 : w1.cell? ⟨w.heap.size, 1, none⟩ = some (.int .i64 0) := by rw [hp.cell]; rfl
  have c2 : w1.cell? ⟨w.heap.size + 1, 0, none⟩ = some (.bool false) := by rw [hq.cell]; rfl
  have f0 : w1.frozen? ⟨w.heap.size, 0, none⟩ = false := hp.frozen 0
  have f1 : w1.frozen? ⟨w.heap.size, 1, none⟩ = false := hp.frozen 1
  have f2 : w1.frozen? ⟨w.heap.size + 1, 0, none⟩ = false := hq.frozen 0
  have P1 := Lib.hid hp
  have Q1 := Lib.hid hq
  have HR := Lib.hid hR
  clear hp hq hR
  go_wp2_with fail
  have P2 : Blk (((w1.setCell ⟨w.heap.size, 0, none⟩ (.int .i64 0)).setCell ⟨w.heap.size, 1, none⟩ (.int .i64 0)).setCell ⟨w.heap.size + 1, 0, none⟩ (.bool false)) w.heap.size 30 #[.int .i64 0, .int .i64 0] := (((P1.out.set_ 0 _).set_ 1 _).far hne _)
  have Q2 : Blk (((w1.setCell ⟨w.heap.size, 0, none⟩ (.int .i64 0)).setCell ⟨w.heap.size, 1, none⟩ (.int .i64 0)).setCell ⟨w.heap.size + 1, 0, none⟩ (.bool false)) (w.heap.size + 1) 4 #[.bool false] := (((Q1.out.far (fun h => hne h.symm) _).far (fun h => hne h.symm) _).set_ 0 _)
  have O2 : Only (fun b => b = w.heap.size ∨ b = w.heap.size + 1) w1 (((w1.setCell ⟨w.heap.size, 0, none⟩ (.int .i64 0)).setCell ⟨w.heap.size, 1, none⟩ (.int .i64 0)).setCell ⟨w.heap.size + 1, 0, none⟩ (.bool false)) := (((Only.refl _ _).setCell (.inr (.inl rfl)) _).setCell (.inr (.inl rfl)) _).setCell (.inr (.inr rfl)) _
  have z1 : w.heap.size + 2 ≤ w1.heap.size := Q1.out.lt
  generalize ((w1.setCell ⟨w.heap.size, 0, none⟩ (.int .i64 0)).setCell ⟨w.heap.size, 1, none⟩ (.int .i64 0)).setCell ⟨w.heap.size + 1, 0, none⟩ (.bool false) = w2 at *
  refine leaves_cons (f := 53) (args := #[.pointer (some ⟨w.heap.size, 0, none⟩), .pointer (some ⟨w.heap.size + 1, 0, none⟩)]) (by simp) (by simp [go_sem]) ?_
  refine (catch1_idle _ _ _).mono ?_
  rintro e u' w'' ⟨rfl, rfl, rfl⟩
  have d0 : w''.cell? ⟨w.heap.size, 0, none⟩ = some (.int .i64 0) := by rw [P2.cell]; rfl
  have d1 : w''.cell? ⟨w.heap.size, 1, none⟩ = some (.int .i64 0) := by rw [P2.cell]; rfl
  have d2 : w''.cell? ⟨w.heap.size + 1, 0, none⟩ = some (.bool false) := by rw [Q2.cell]; rfl
  refine ⟨.tuple #[.agg #[.int .i64 0, .int .i64 0], .bool false], by simp [results, Try.results16, go_sem, d0, d1, d2], rfl, w1, HR.out, z1, O2⟩
set_option maxRecDepth 100000 in
set_option maxHeartbeats 2000000 in
theorem catch_thrown (n : FuncId) (first cap : Array Value) (hen : ∀ args W, (callFunc n args).run Try.prog W = .ok (.enter n args) W) (a c : Int) (R : World → Prop) (w : World)
    (H : Hid (Calls Try.prog n (first ++ cap) (FD w) fun e w1 => e = .panicked [{ v := flt a c, recovered := false }] ∧ R w1 ∧ Blk w1 w.heap.size 30 #[.int .i64 0, .int .i64 0] ∧ Blk w1 (w.heap.size + 1) 4 #[.bool false])) :
    Calls Try.prog 16 #[.func (.func n) first cap] w (CatchQ w R a c true) := by
  have hmf : ∀ (fn : Fn) (first cap : Array Value) (w : World), (Instr.makeFunc fn first cap).run Try.prog w = .ok (.func fn first cap) w := fun _ _ _ _ => rfl
  have hfn : ∀ W : World, (binOp .eql 1 (.func (.func n) first cap) .nilFunc).run Try.prog W = .ok (.bool false) W := fun W => by kernel_rfl
  go_enter_defers Try.func16, Try.ntmps16
  go_wp2_with fail
  refine (H.out).mono ?_
  rintro e w1 ⟨rfl, hR, hp, hq⟩
  have z1 : w.heap.size + 2 ≤ w1.heap.size := hq.lt
  have P1 := Lib.hid hp
  have Q1 := Lib.hid hq
  have HR := Lib.hid hR
  clear hp hq hR
  go_wp2_with fail
  refine leaves_cons (f := 53) (args := #[.pointer (some ⟨w.heap.size, 0, none⟩), .pointer (some ⟨w.heap.size + 1, 0, none⟩)]) (by simp) (by simp [go_sem]) ?_
  refine (catch1_thrown _ _ a c _ _ _ [] _ P1.out Q1.out).mono ?_
  rintro e u' w2 ⟨rfl, rfl, P2, Q2, O2⟩
  have d0 : w2.cell? ⟨w.heap.size, 0, none⟩ = some (.int .i64 a) := by rw [P2.cell]; rfl
  have d1 : w2.cell? ⟨w.heap.size, 1, none⟩ = some (.int .i64 c) := by rw [P2.cell]; rfl
  have d2 : w2.cell? ⟨w.heap.size + 1, 0, none⟩ = some (.bool true) := by rw [Q2.cell]; rfl
  refine ⟨.tuple #[.agg #[.int .i64 a, .int .i64 c], .bool true], by simp [results, Try.results16, go_sem, d0, d1, d2], rfl, w1, HR.out, z1, O2⟩
def Thr : Option (Int × Int) → Ending
  | none => .returned (.tuple #[])
  | some (a, c) => .panicked [{ v := flt a c, recovered := false }]
def oA : Option (Int × Int) → Int
  | none => 0
  | some (a, _) => a
def oC : Option (Int × Int) → Int
  | none => 0
  | some (_, c) => c
theorem catch_any (n : FuncId) (first cap : Array Value) (hen : ∀ args W, (callFunc n args).run Try.prog W = .ok (.enter n args) W) (o : Option (Int × Int)) (R : World → Prop) (w : World)
    (H : Calls Try.prog n (first ++ cap) (FD w) fun e w1 => e = Thr o ∧ R w1 ∧ Blk w1 w.heap.size 30 #[.int .i64 0, .int .i64 0] ∧ Blk w1 (w.heap.size + 1) 4 #[.bool false]) :
    Calls Try.prog 16 #[.func (.func n) first cap] w (CatchQ w R (oA o) (oC o) o.isSome) := by
  match o with
  | none => exact catch_ret n first cap hen R w (Lib.hid H)
  | some (a, c) => exact catch_thrown n first cap hen a c R w (Lib.hid H)
end Go.Proofs.Ytmmmhkpekaimeaa
