/- A pool of ints (layer 6): what is refused. -/
import Derived.Test.YtmmmhkpekaimeaaP5
import Derived.WalkSmall
set_option linter.unusedVariables false
namespace Go.Proofs.Ytmmmhkpekaimeaa
open Go.ChangeShapes Go.WideShapes Go.ChangeAt Go.RowKit
set_option maxHeartbeats 2000000 in
theorem at_low (g n c : Nat) (A : Option Addr) (most i : Int) (y f : Value) (w : World) (hb : Blk w g 103 #[.int .i64 most, .slice A n c, y]) (h : i < 1) :
    Calls Try.prog 64 #[.pointer (some ⟨g, 0, none⟩), .int .i64 i, f] w fun e w' => e = .returned (.int .i64 6) ∧ w = w' := by
  have e1 : w.cell? ⟨g, 1, none⟩ = some (.slice A n c) := by rw [hb.cell]; rfl
  clear hb
  go_enter Try.func64, Try.ntmps64
  go_wp2_with fail
  go_ret
  exact ⟨rfl, rfl⟩
set_option maxHeartbeats 2000000 in
theorem at_high (g n c : Nat) (A : Option Addr) (most i : Int) (y f : Value) (w : World) (hb : Blk w g 103 #[.int .i64 most, .slice A n c, y]) (h : (n : Int) < i) :
    Calls Try.prog 64 #[.pointer (some ⟨g, 0, none⟩), .int .i64 i, f] w fun e w' => e = .returned (.int .i64 6) ∧ w = w' := by
  have e1 : w.cell? ⟨g, 1, none⟩ = some (.slice A n c) := by rw [hb.cell]; rfl
  have h1 : ¬ i < 1 := by omega
  clear hb
  go_enter Try.func64, Try.ntmps64
  go_wp2_with fail
  go_ret
  exact ⟨rfl, rfl⟩
set_option maxHeartbeats 2000000 in
theorem at_free (g n c b k : Nat) (most : Int) (y f : Value) (w : World) (hk : k < n) (hn : n ≤ 1048576) (hb : Blk w g 103 #[.int .i64 most, .slice (some ⟨b, 0, none⟩) n c, y]) (ht : w.cell? ⟨b, k * 2 + 1, none⟩ = some (.bool false)) :
    Calls Try.prog 64 #[.pointer (some ⟨g, 0, none⟩), .int .i64 ((k : Int) + 1), f] w fun e w' => e = .returned (.int .i64 6) ∧ w = w' := by
  have e1 : w.cell? ⟨g, 1, none⟩ = some (.slice (some ⟨b, 0, none⟩) n c) := by rw [hb.cell]; rfl
  have s1 : IntKind.i64.wrap ((k : Int) + 1 - 1) = (k : Int) := by rw [Int.add_sub_cancel]; exact IntWalk.i64_in _ (by omega)
  have s2 : IntKind.i64.wrap (k : Int) = (k : Int) := IntWalk.i64_in _ (by omega)
  have i0 : (0 : Int) ≤ (k : Int) := by omega
  have i1 : (k : Int) < (n : Int) := by omega
  have i2 : ¬ ((k : Int) + 1 < 1) := by omega
  have i3 : ¬ ((n : Int) < (k : Int) + 1) := by omega
  clear hb
  go_enter Try.func64, Try.ntmps64
  go_wp2_with fail
  go_ret
  exact ⟨rfl, rfl⟩
/-- at refuses i, whatever it is handed, in every later world -/
def Refused (g : Nat) (i : Int) (w : World) : Prop := ∀ W f, Only (fun _ => False) w W → Calls Try.prog 64 #[.pointer (some ⟨g, 0, none⟩), .int .i64 i, f] W fun e w' => e = .returned (.int .i64 6) ∧ W = w'
set_option maxHeartbeats 2000000 in
theorem pool_give_no (g : Nat) (i : Int) (w : World) (h : Refused g i w) : Calls Try.prog 35 #[.pointer (some ⟨g, 0, none⟩), .int .i64 i] w fun e w' => e = .returned (.int .i64 6) ∧ Only (fun _ => False) w w' := by
  have hmf : ∀ (fn : Fn) (first cap : Array Value) (w : World), (Instr.makeFunc fn first cap).run Try.prog w = .ok (.func fn first cap) w := fun _ _ _ _ => rfl
  have hA := fun f => h ((w.alloc (.cells #[.pointer (some ⟨g, 0, none⟩)] 51)).alloc (.cells #[.int .i64 i] 3)) f (((Only.refl _ w).alloc _).alloc _)
  have HA := Lib.hid hA
  clear hA h
  go_enter Try.func35, Try.ntmps35
  go_wp2_with fail
  refine (HA.out _).mono ?_
  rintro e w1 ⟨rfl, rfl⟩
  go_wp2_with fail
  go_ret
  exact ⟨rfl, ((Only.refl _ w).alloc _).alloc _⟩
set_option maxHeartbeats 2000000 in
theorem pool_get_no (g : Nat) (i : Int) (w : World) (h : Refused g i w) : Calls Try.prog 33 #[.pointer (some ⟨g, 0, none⟩), .int .i64 i] w fun e w' => e = .returned (.tuple #[.int .i64 0, .bool false]) ∧ Only (fun _ => False) w w' := by
  have hmf : ∀ (fn : Fn) (first cap : Array Value) (w : World), (Instr.makeFunc fn first cap).run Try.prog w = .ok (.func fn first cap) w := fun _ _ _ _ => rfl
  have hA := fun f => h (w.alloc (.cells #[.int .i64 0] 3)) f ((Only.refl _ w).alloc _)
  have HA := Lib.hid hA
  clear hA h
  go_enter Try.func33, Try.ntmps33
  go_wp2_with fail
  refine (HA.out _).mono ?_
  rintro e w1 ⟨rfl, rfl⟩
  go_wp2_with fail
  go_ret2
  exact ⟨rfl, (Only.refl _ w).alloc _⟩
set_option maxHeartbeats 2000000 in
theorem pool_free_full (base g n : Nat) (most : Int) (x : Value) (A2 : Option Addr) (c2 : Nat) (X : List (Int × Bool)) (w : World) (h : Pl w base g most x n X (.slice A2 0 c2) 0 []) (hn : (n : Int) = most) :
    Calls Try.prog 69 #[.pointer (some ⟨g, 0, none⟩)] w fun e w' => e = .panicked [{ v := flt 0 4, recovered := false }] ∧ Only (fun _ => False) w w' := by
  obtain ⟨hb, hx, hy, hxy⟩ := h
  obtain ⟨A1, c1, rfl, -⟩ := own_slice hx
  subst hn
  have h2 : w.cell? ⟨g, 2, none⟩ = some (.slice A2 0 c2) := by rw [hb.cell]; rfl
  have h1 : w.cell? ⟨g, 1, none⟩ = some (.slice A1 n c1) := by rw [hb.cell]; rfl
  have h0 : w.cell? ⟨g, 0, none⟩ = some (.int .i64 (n : Int)) := by rw [hb.cell]; rfl
  clear hb hx hy hxy
  go_enter Try.func69, Try.ntmps69
  go_wp2_with fail
  go_quiet (fail)
  go_wp2_with fail
  refine (throw_yes 0 4 (by decide) _).mono ?_
  rintro e w1 ⟨rfl, rfl⟩
  exact ⟨rfl, rfl, (Only.refl _ w).drewN _⟩
set_option maxHeartbeats 2000000 in
theorem take1_full (g p0 p1 : Nat) (w : World) (b0 : Blk w p0 51 #[.pointer (some ⟨g, 0, none⟩)]) (H : Calls Try.prog 69 #[.pointer (some ⟨g, 0, none⟩)] w fun e w' => e = .panicked [{ v := flt 0 4, recovered := false }] ∧ Only (fun _ => False) w w') :
    Calls Try.prog 68 #[.pointer (some ⟨p0, 0, none⟩), .pointer (some ⟨p1, 0, none⟩)] w fun e w' => e = .panicked [{ v := flt 0 4, recovered := false }] ∧ Only (fun _ => False) w w' := by
  have c0 : w.cell? ⟨p0, 0, none⟩ = some (.pointer (some ⟨g, 0, none⟩)) := by rw [b0.cell]; rfl
  have HH := Lib.hid H
  clear b0 H
  go_enter Try.func68, Try.ntmps68
  go_wp2_with fail
  refine (HH.out).mono ?_
  rintro e w1 ⟨rfl, ho⟩
  exact ⟨rfl, rfl, ho⟩
set_option maxRecDepth 100000 in
set_option maxHeartbeats 4000000 in
theorem take_full (g : Nat) (v : Int) (w : World) (H : ∀ W, Only (fun _ => False) w W → Calls Try.prog 69 #[.pointer (some ⟨g, 0, none⟩)] W fun e w' => e = .panicked [{ v := flt 0 4, recovered := false }] ∧ Only (fun _ => False) W w') :
    Calls Try.prog 36 #[.pointer (some ⟨g, 0, none⟩), .int .i64 v] w fun e w' => e = .returned (.tuple #[.int .i64 0, .int .i64 4]) ∧ Only (fun _ => False) w w' := by
  have hmf : ∀ (fn : Fn) (first cap : Array Value) (w : World), (Instr.makeFunc fn first cap).run Try.prog w = .ok (.func fn first cap) w := fun _ _ _ _ => rfl
  have hW : Only (fun _ => False) w ((w.alloc (.cells #[.pointer (some ⟨g, 0, none⟩)] 51)).alloc (.cells #[.int .i64 v] 3)) := ((Only.refl _ w).alloc _).alloc _
  have p0 : Blk ((w.alloc (.cells #[.pointer (some ⟨g, 0, none⟩)] 51)).alloc (.cells #[.int .i64 v] 3)) w.heap.size 51 #[.pointer (some ⟨g, 0, none⟩)] := (Blk.new w 51 _).alloc _
  have hC : Only (fun _ => False) ((w.alloc (.cells #[.pointer (some ⟨g, 0, none⟩)] 51)).alloc (.cells #[.int .i64 v] 3)) (FD (CI (.func (.func 68) #[] #[.pointer (some ⟨w.heap.size, 0, none⟩), .pointer (some ⟨w.heap.size + 1, 0, none⟩)]) ((w.alloc (.cells #[.pointer (some ⟨g, 0, none⟩)] 51)).alloc (.cells #[.int .i64 v] 3)))) := (CI_only _ _ _).trans (FD_only _ _) (fun _ _ h => h)
  have hT := vint_frame 68 #[] #[.pointer (some ⟨w.heap.size, 0, none⟩), .pointer (some ⟨w.heap.size + 1, 0, none⟩)] (fun args W => by kernel_rfl) (some (0, 4)) 0 (fun _ => True) (fun _ => False) ((w.alloc (.cells #[.pointer (some ⟨g, 0, none⟩)] 51)).alloc (.cells #[.int .i64 v] 3))
    (fun i h => h.elim) (fun w1 w' h1 h2 => trivial)
    ((take1_full g w.heap.size (w.heap.size + 1) (FD (CI (.func (.func 68) #[] #[.pointer (some ⟨w.heap.size, 0, none⟩), .pointer (some ⟨w.heap.size + 1, 0, none⟩)]) ((w.alloc (.cells #[.pointer (some ⟨g, 0, none⟩)] 51)).alloc (.cells #[.int .i64 v] 3)))) (hC.blk p0 (fun h => h)) (H _ (hW.trans hC (fun _ _ h => h)))).mono fun e w1 h => ⟨h.1, trivial, h.2⟩)
  have HT := Lib.hid hT
  have HW := Lib.hid hW
  clear hT p0 hC H hW
  go_enter Try.func36, Try.ntmps36
  go_wp2_with fail
  refine (HT.out).mono ?_
  intro e w1 hP
  obtain ⟨he, -, ho⟩ := hP
  obtain rfl : e = .returned (.tuple #[.int .i64 0, .int .i64 4]) := he
  have HO := Lib.hid ho
  clear ho
  go_wp2_with fail
  go_ret2
  exact ⟨rfl, HW.out.trans HO.out (fun i _ h => h)⟩
end Go.Proofs.Ytmmmhkpekaimeaa
