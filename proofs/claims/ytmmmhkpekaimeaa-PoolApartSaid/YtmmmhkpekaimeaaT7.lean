/- Doers, called and caught; what lives (layer 5). -/
import Derived.Test.YtmmmhkpekaimeaaT5
import Derived.Test.YtmmmhkpekaimeaaT6
set_option linter.unusedVariables false
namespace Go.Proofs.Ytmmmhkpekaimeaa
open Go.ChangeShapes Go.WideShapes Go.ChangeAt Go.RowKit
theorem caught_all (g n c B : Nat) (A : Option Addr) (d0 code : Int) (S : List Int) (w : World) (hb : Blk w g 27 (dcells A n c d0 code)) (hr : Reads w B 5 A n (iv S)) (hBg : B ≤ g) (hS : Hid (okS S n)) (hn : n ≤ 1000) (hd : 0 ≤ d0 ∧ d0 ≤ 1000) :
    Calls Try.prog 16 #[.func (.func 17) #[.pointer (some ⟨g, 0, none⟩)] #[]] w fun e w' => e = .returned (.tuple #[fval (allGo S n 0).1, .bool (allGo S n 0).1.isSome]) ∧ Blk w' g 27 (dcells A n c (d0 + ((allGo S n 0).2 : Int)) code) ∧ Only (fun b => b = g) w w' := by
  refine catch_frame 17 #[.pointer (some ⟨g, 0, none⟩)] #[] (fun args W => by kernel_rfl) (allGo S n 0).1 (fun w' => Blk w' g 27 (dcells A n c (d0 + ((allGo S n 0).2 : Int)) code)) (fun b => b = g) w (fun i h => by rw [h]; exact hb.lt) ?_ (fun w1 w' h1 h2 => h2.blk h1 (fun h => by have := hb.lt; omega))
  exact all_any g n c B A d0 code S (FD w) ((FD_only (fun _ => False) w).blk hb (fun h => h)) ((FD_only (fun _ => False) w).reads hr (by have := hb.lt; omega) (fun _ _ h => h)) hBg hS hn hd
set_option maxRecDepth 100000 in
set_option maxHeartbeats 2000000 in
theorem coded_any (g n c B : Nat) (A : Option Addr) (d0 code : Int) (S : List Int) (w : World) (hb : Blk w g 27 (dcells A n c d0 code)) (hr : Reads w B 5 A n (iv S)) (hBg : B ≤ g) (hS : Hid (okS S n)) (hn : n ≤ 1000) (hd : 0 ≤ d0 ∧ d0 ≤ 1000) :
    Calls Try.prog 20 #[.pointer (some ⟨g, 0, none⟩)] w fun e w' => e = ThrV (.int .i64 code) (allGo S n 0).1 ∧ Blk w' g 27 (dcells A n c (d0 + ((allGo S n 0).2 : Int)) code) ∧ Only (fun b => b = g) w w' := by
  have hA := all_any g n c B A d0 code S w hb hr hBg hS hn hd
  unfold AllE at hA
  have HA := Lib.hid hA
  clear hA hb hr hS hd
  generalize (allGo S n 0).1 = o at *
  go_enter Try.func20, Try.ntmps20
  go_wp2_with fail
  refine (HA.out).mono ?_
  intro e w1 hP
  obtain ⟨he, hb, ho⟩ := hP
  cases o with
  | none =>
    obtain rfl : e = .returned (.tuple #[]) := he
    have e2 : w1.cell? ⟨g, 2, none⟩ = some (.int .i64 code) := by rw [hb.cell]; rfl
    have HB := Lib.hid hb
    have HO := Lib.hid ho
    clear hb ho
    go_wp2_with fail
    go_ret
    exact ⟨rfl, HB.out, HO.out⟩
  | some f =>
    obtain ⟨a, cc⟩ := f
    obtain rfl : e = .panicked [{ v := flt a cc, recovered := false }] := he
    exact ⟨rfl, rfl, hb, ho⟩
theorem code_coded (g n c B : Nat) (A : Option Addr) (d0 code : Int) (S : List Int) (w : World) (hb : Blk w g 27 (dcells A n c d0 code)) (hr : Reads w B 5 A n (iv S)) (hBg : B ≤ g) (hS : Hid (okS S n)) (hn : n ≤ 1000) (hd : 0 ≤ d0 ∧ d0 ≤ 1000) :
    Calls Try.prog 19 #[.func (.func 20) #[.pointer (some ⟨g, 0, none⟩)] #[]] w fun e w' => e = .returned (.int .i64 (codeOf code (allGo S n 0).1)) ∧ Blk w' g 27 (dcells A n c (d0 + ((allGo S n 0).2 : Int)) code) ∧ Only (fun b => b = g) w w' := by
  refine code_frame 20 #[.pointer (some ⟨g, 0, none⟩)] #[] (fun args W => by kernel_rfl) (allGo S n 0).1 code (fun w' => Blk w' g 27 (dcells A n c (d0 + ((allGo S n 0).2 : Int)) code)) (fun b => b = g) w (fun i h => by rw [h]; exact hb.lt) (fun w1 w' h1 h2 => h2.blk h1 (fun h => by have := hb.lt; omega)) ?_
  exact coded_any g n c B A d0 code S _ ((FD_only (fun _ => False) _).blk ((CD_only (fun _ => False) _ w).blk hb (fun h => h)) (fun h => h)) ((FD_only (fun _ => False) _).reads ((CD_only (fun _ => False) _ w).reads hr (by have := hb.lt; omega) (fun _ _ h => h)) (by rw [CD_size]; have := hb.lt; omega) (fun _ _ h => h)) hBg hS hn hd
set_option maxRecDepth 100000 in
set_option maxHeartbeats 2000000 in
theorem inner_any (g n c B : Nat) (A : Option Addr) (d0 code : Int) (S : List Int) (w : World) (hb : Blk w g 27 (dcells A n c d0 code)) (hr : Reads w B 5 A n (iv S)) (hBg : B ≤ g) (hS : Hid (okS S n)) (hn : n ≤ 1000) (hd : 0 ≤ d0 ∧ d0 ≤ 1000) :
    Calls Try.prog 22 #[.pointer (some ⟨g, 0, none⟩)] w fun e w' => e = .returned (.tuple #[]) ∧ Blk w' g 27 (dcells A n c (d0 + ((allGo S n 0).2 : Int)) code) ∧ Only (fun b => b = g) w w' := by
  have hmf : ∀ (fn : Fn) (first cap : Array Value) (w : World), (Instr.makeFunc fn first cap).run Try.prog w = .ok (.func fn first cap) w := fun _ _ _ _ => rfl
  have HA := Lib.hid (caught_all g n c B A d0 code S w hb hr hBg hS hn hd)
  clear hb hr hS hd
  go_enter Try.func22, Try.ntmps22
  go_wp2_with fail
  refine (HA.out).mono ?_
  intro e w1 hP
  obtain ⟨rfl, hb, ho⟩ := hP
  have HB := Lib.hid hb
  have HO := Lib.hid ho
  clear hb ho
  go_wp2_with fail
  go_end0
  exact ⟨rfl, HB.out, HO.out⟩
theorem caught_inner (g n c B : Nat) (A : Option Addr) (d0 code : Int) (S : List Int) (w : World) (hb : Blk w g 27 (dcells A n c d0 code)) (hr : Reads w B 5 A n (iv S)) (hBg : B ≤ g) (hS : Hid (okS S n)) (hn : n ≤ 1000) (hd : 0 ≤ d0 ∧ d0 ≤ 1000) :
    Calls Try.prog 16 #[.func (.func 22) #[.pointer (some ⟨g, 0, none⟩)] #[]] w fun e w' => e = .returned (.tuple #[fval none, .bool false]) ∧ Blk w' g 27 (dcells A n c (d0 + ((allGo S n 0).2 : Int)) code) ∧ Only (fun b => b = g) w w' := by
  refine catch_frame 22 #[.pointer (some ⟨g, 0, none⟩)] #[] (fun args W => by kernel_rfl) none (fun w' => Blk w' g 27 (dcells A n c (d0 + ((allGo S n 0).2 : Int)) code)) (fun b => b = g) w (fun i h => by rw [h]; exact hb.lt) ?_ (fun w1 w' h1 h2 => h2.blk h1 (fun h => by have := hb.lt; omega))
  exact inner_any g n c B A d0 code S (FD w) ((FD_only (fun _ => False) w).blk hb (fun h => h)) ((FD_only (fun _ => False) w).reads hr (by have := hb.lt; omega) (fun _ _ h => h)) hBg hS hn hd
theorem eq_fault (a c a' c' : Int) (W : World) : (binOp .eql 30 (.agg #[.int .i64 a, .int .i64 c]) (.agg #[.int .i64 a', .int .i64 c'])).run Try.prog W = .ok (.bool (a == a' && c == c')) W := by
  cases e1 : a == a' <;> cases e2 : c == c'
  all_goals go_simp
set_option maxRecDepth 100000 in
set_option maxHeartbeats 4000000 in
theorem lives5 (w : World) : Calls Try.prog 15 #[] w fun e w' => e = .returned (.bool true) ∧ Below w.heap.size w w' := by
  have hmf : ∀ (fn : Fn) (first cap : Array Value) (w : World), (Instr.makeFunc fn first cap).run Try.prog w = .ok (.func fn first cap) w := fun _ _ _ _ => rfl
  have heq : ∀ W : World, (binOp .eql 30 (.agg #[.int .i64 3, .int .i64 4]) (.agg #[.int .i64 3, .int .i64 4])).run Try.prog W = .ok (.bool true) W := fun W => by rw [eq_fault]; simp
  have hw : Below w.heap.size w ((w.alloc (.cells #[.int .i64 1, .int .i64 3, .int .i64 4, .int .i64 0, .int .i64 0] 94)).alloc (.cells #[.slice (some ⟨w.heap.size, 0, none⟩) 1 1, .int .i64 0, .int .i64 0] 27)) := (by repeat (first | with_reducible exact Below.refl _ _ | with_reducible assumption | with_reducible refine Below.setCell ?_ (by first | omega | (simp <;> omega)) _ | with_reducible refine below_drewN ?_ _ | with_reducible refine Below.drew ?_ | with_reducible refine Below.alloc ?_ (by first | omega | (simp <;> omega)) _))
  have hd : Blk ((w.alloc (.cells #[.int .i64 1, .int .i64 3, .int .i64 4, .int .i64 0, .int .i64 0] 94)).alloc (.cells #[.slice (some ⟨w.heap.size, 0, none⟩) 1 1, .int .i64 0, .int .i64 0] 27)) (w.heap.size + 1) 27 (dcells (some ⟨w.heap.size, 0, none⟩) 1 1 0 0) := by
    have h := Blk.new (w.alloc (.cells #[.int .i64 1, .int .i64 3, .int .i64 4, .int .i64 0, .int .i64 0] 94)) 27 #[.slice (some ⟨w.heap.size, 0, none⟩) 1 1, .int .i64 0, .int .i64 0]
    have hs : (w.alloc (.cells #[.int .i64 1, .int .i64 3, .int .i64 4, .int .i64 0, .int .i64 0] 94)).heap.size = w.heap.size + 1 := by simp
    rw [hs] at h
    exact h
  have hr : Reads ((w.alloc (.cells #[.int .i64 1, .int .i64 3, .int .i64 4, .int .i64 0, .int .i64 0] 94)).alloc (.cells #[.slice (some ⟨w.heap.size, 0, none⟩) 1 1, .int .i64 0, .int .i64 0] 27)) (w.heap.size + 1) 5 (some ⟨w.heap.size, 0, none⟩) 1 (iv [1, 3, 4, 0, 0]) := by
    have h := Reads.of_own (base := 0) (e := 94) (c := 1) (World.ownsRow_lit (size := 5) (e := 94) w #[.int .i64 1, .int .i64 3, .int .i64 4, .int .i64 0, .int .i64 0] 1 (Nat.zero_le _) (by simp [maxLen]) rfl)
    have hs : (w.alloc (.cells #[.int .i64 1, .int .i64 3, .int .i64 4, .int .i64 0, .int .i64 0] 94)).heap.size = w.heap.size + 1 := by simp
    rw [hs] at h
    exact h.alloc (by rw [hs]; exact Nat.le_refl _) _
  have hS : okS [1, 3, 4, 0, 0] 1 := by
    intro j hj
    obtain rfl : j = 0 := by omega
    decide
  have ho : (allGo [1, 3, 4, 0, 0] 1 0) = (some (3, 4), 0) := by decide
  have h1 := caught_all (w.heap.size + 1) 1 1 (w.heap.size + 1) _ 0 0 _ _ hd hr (Nat.le_refl _) (Lib.hid hS) (by omega) (by omega)
  rw [ho] at h1
  have H1 := Lib.hid h1
  have HR := Lib.hid hr
  have HD := Lib.hid hd
  have HS := Lib.hid hS
  have HO := Lib.hid ho
  clear h1 hr hd hS ho
  generalize hW : ((w.alloc (.cells #[.int .i64 1, .int .i64 3, .int .i64 4, .int .i64 0, .int .i64 0] 94)).alloc (.cells #[.slice (some ⟨w.heap.size, 0, none⟩) 1 1, .int .i64 0, .int .i64 0] 27)) = W at *
  have HW := Lib.hid hW
  clear hW
  go_enter Try.func15, Try.ntmps15
  go_wp2_with fail
  rw [HW.out]
  refine (H1.out).mono ?_
  intro e w1 hP
  obtain ⟨he, hb1, ho1⟩ := hP
  obtain rfl : e = .returned (.tuple #[.agg #[.int .i64 3, .int .i64 4], .bool true]) := he
  have z1 : w.heap.size + 1 < w1.heap.size := hb1.lt
  have k1 : Below w.heap.size w w1 := hw.trans (ho1.below hw.size (fun i hi h => by omega))
  have r1 : Reads w1 (w.heap.size + 1) 5 (some ⟨w.heap.size, 0, none⟩) 1 (iv [1, 3, 4, 0, 0]) := ho1.reads HR.out (by have := HD.out.lt; omega) (fun i hi h => by omega)
  have h2 := code_coded (w.heap.size + 1) 1 1 (w.heap.size + 1) _ 0 0 _ (w1.alloc (.cells #[.int .i64 3, .int .i64 4] 30)) (hb1.alloc _) (r1.alloc (by omega) _) (Nat.le_refl _) HS (by omega) (by omega)
  rw [HO.out] at h2
  have H2 := Lib.hid h2
  clear h2 r1 hb1 ho1
  go_wp2_with fail
  refine (H2.out).mono ?_
  intro e w2 hP
  obtain ⟨he, hb2, ho2⟩ := hP
  obtain rfl : e = .returned (.int .i64 4) := he
  have k2 : Below w.heap.size w w2 := (k1.alloc k1.size _).trans (ho2.below (by have := k1.size; simp; omega) (fun i hi h => by omega))
  clear hb2 ho2
  go_wp2_with fail
  go_ret
  exact ⟨rfl, k2⟩
end Go.Proofs.Ytmmmhkpekaimeaa
