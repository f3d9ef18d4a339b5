/- A session (layer 32): what moves it. -/
import Derived.Test.YtencgokpbfkeiaaI2
set_option linter.unusedVariables false
namespace Go.Proofs.Ytencgokpbfkeiaa
open Go.ChangeShapes Go.WideShapes Go.ChangeAt Go.RowKit
set_option maxHeartbeats 2000000 in
theorem move1_yes (p3 p5 p4 s n c : Nat) (A : Option Addr) (fn : FuncId) (first cap : Array Value) (hen : ∀ args W, (callFunc fn args).run Try.prog W = .ok (.enter fn args) W) (R : World → Prop) (w : World) (b3 : Blk w p3 73 #[.pointer (some ⟨s, 0, none⟩)]) (b5 : Blk w p5 89 #[.slice A n c]) (b4 : Blk w p4 1 #[.func (.func fn) first cap])
    (hin : Calls Try.prog 77 #[.pointer (some ⟨s, 0, none⟩), .slice A n c] w fun e w' => e = .returned (.bool true) ∧ w = w') (H : Calls Try.prog fn (first ++ cap) w fun e w1 => e = .returned (.tuple #[]) ∧ R w1) :
    Calls Try.prog 94 #[.pointer (some ⟨p3, 0, none⟩), .pointer (some ⟨p5, 0, none⟩), .pointer (some ⟨p4, 0, none⟩)] w fun e w' => e = .returned (.int .i64 0) ∧ R w' := by
  have c3 : w.cell? ⟨p3, 0, none⟩ = some (.pointer (some ⟨s, 0, none⟩)) := by rw [b3.cell]; rfl
  have c5 : w.cell? ⟨p5, 0, none⟩ = some (.slice A n c) := by rw [b5.cell]; rfl
  have c4 : w.cell? ⟨p4, 0, none⟩ = some (.func (.func fn) first cap) := by rw [b4.cell]; rfl
  have HI := Lib.hid hin
  have HH := Lib.hid H
  clear b3 b5 b4 hin H
  go_enter Try.func94, Try.ntmps94
  go_wp2_with fail
  refine (HI.out).mono ?_
  rintro e w' ⟨rfl, rfl⟩
  go_wp2_with fail
  refine (HH.out).mono ?_
  rintro e w1 ⟨rfl, hr⟩
  go_wp2_with fail
  go_ret
  exact ⟨rfl, hr⟩
set_option maxHeartbeats 2000000 in
theorem move1_no (p3 p5 p4 s n c : Nat) (A : Option Addr) (w : World) (b3 : Blk w p3 73 #[.pointer (some ⟨s, 0, none⟩)]) (b5 : Blk w p5 89 #[.slice A n c])
    (hin : Calls Try.prog 77 #[.pointer (some ⟨s, 0, none⟩), .slice A n c] w fun e w' => e = .returned (.bool false) ∧ w = w') :
    Calls Try.prog 94 #[.pointer (some ⟨p3, 0, none⟩), .pointer (some ⟨p5, 0, none⟩), .pointer (some ⟨p4, 0, none⟩)] w fun e w' => e = .returned (.int .i64 10) ∧ w = w' := by
  have c3 : w.cell? ⟨p3, 0, none⟩ = some (.pointer (some ⟨s, 0, none⟩)) := by rw [b3.cell]; rfl
  have c5 : w.cell? ⟨p5, 0, none⟩ = some (.slice A n c) := by rw [b5.cell]; rfl
  have HI := Lib.hid hin
  clear b3 b5 hin
  go_enter Try.func94, Try.ntmps94
  go_wp2_with fail
  refine (HI.out).mono ?_
  rintro e w' ⟨rfl, rfl⟩
  go_wp2_with fail
  go_ret
  exact ⟨rfl, rfl⟩
def M3 (s : Nat) (f : Value) (l : Value) (w : World) : World := ((w.alloc (.cells #[.pointer (some ⟨s, 0, none⟩)] 73)).alloc (.cells #[f] 1)).alloc (.cells #[l] 89)
theorem M3_size (s : Nat) (f l : Value) (w : World) : (M3 s f l w).heap.size = w.heap.size + 3 := by simp [M3]
theorem M3_s (s : Nat) (f l : Value) (w : World) : Blk (M3 s f l w) w.heap.size 73 #[.pointer (some ⟨s, 0, none⟩)] := ((Blk.new w 73 _).alloc _).alloc _
theorem M3_f (s : Nat) (f l : Value) (w : World) : Blk (M3 s f l w) (w.heap.size + 1) 1 #[f] := by
  have h := (Blk.new (w.alloc (.cells #[.pointer (some ⟨s, 0, none⟩)] 73)) 1 #[f]).alloc (.cells #[l] 89)
  have e : (w.alloc (.cells #[.pointer (some ⟨s, 0, none⟩)] 73)).heap.size = w.heap.size + 1 := by simp
  rw [e] at h
  exact h
theorem M3_l (s : Nat) (f l : Value) (w : World) : Blk (M3 s f l w) (w.heap.size + 2) 89 #[l] := by
  have h := Blk.new ((w.alloc (.cells #[.pointer (some ⟨s, 0, none⟩)] 73)).alloc (.cells #[f] 1)) 89 #[l]
  have e : ((w.alloc (.cells #[.pointer (some ⟨s, 0, none⟩)] 73)).alloc (.cells #[f] 1)).heap.size = w.heap.size + 2 := by simp
  rw [e] at h
  exact h
theorem M3_only (S : Nat → Prop) (s : Nat) (f l : Value) (w : World) : Only S w (M3 s f l w) := (((Only.refl S w).alloc _).alloc _).alloc _
set_option maxRecDepth 100000 in
set_option maxHeartbeats 2000000 in
theorem move_of (s n c : Nat) (A : Option Addr) (fn : FuncId) (first cap : Array Value) (hen : ∀ args W, (callFunc fn args).run Try.prog W = .ok (.enter fn args) W) (x : Int) (R : World → Prop) (S : Nat → Prop) (w : World) (hS : ∀ i, S i → i < w.heap.size) (hR : ∀ w1 w', R w1 → Only (fun b => w.heap.size ≤ b) w1 w' → R w')
    (H : ∀ W, Only (fun _ => False) w W → Blk W w.heap.size 73 #[.pointer (some ⟨s, 0, none⟩)] → Blk W (w.heap.size + 1) 1 #[.func (.func fn) first cap] → Blk W (w.heap.size + 2) 89 #[.slice A n c] → Calls Try.prog 94 #[.pointer (some ⟨w.heap.size, 0, none⟩), .pointer (some ⟨w.heap.size + 2, 0, none⟩), .pointer (some ⟨w.heap.size + 1, 0, none⟩)] W fun e w1 => e = .returned (.int .i64 x) ∧ R w1 ∧ Only S W w1) :
    Calls Try.prog 78 #[.pointer (some ⟨s, 0, none⟩), .func (.func fn) first cap, .slice A n c] w fun e w' => e = .returned (.int .i64 x) ∧ R w' ∧ Only S w w' := by
  have hmf : ∀ (fn : Fn) (first cap : Array Value) (w : World), (Instr.makeFunc fn first cap).run Try.prog w = .ok (.func fn first cap) w := fun _ _ _ _ => rfl
  have hz := M3_size s (.func (.func fn) first cap) (.slice A n c) w
  have C := code_ret 94 #[] #[.pointer (some ⟨w.heap.size, 0, none⟩), .pointer (some ⟨w.heap.size + 2, 0, none⟩), .pointer (some ⟨w.heap.size + 1, 0, none⟩)] (fun args W => by kernel_rfl) x R S (M3 s (.func (.func fn) first cap) (.slice A n c) w)
    (fun i h => by rw [hz]; have := hS i h; omega) (fun w1 w' h1 h2 => hR w1 w' h1 (h2.mono (fun i _ h => by rw [hz] at h; omega)))
    (H _ ((M3_only _ _ _ _ w).trans ((CD_only _ _ _).trans (FD_only _ _) (fun _ _ h => h)) (fun _ _ h => h))
      (((CD_only (fun _ => False) _ _).trans (FD_only _ _) (fun _ _ h => h)).blk (M3_s s _ _ w) (fun h => h))
      (((CD_only (fun _ => False) _ _).trans (FD_only _ _) (fun _ _ h => h)).blk (M3_f s _ _ w) (fun h => h))
      (((CD_only (fun _ => False) _ _).trans (FD_only _ _) (fun _ _ h => h)).blk (M3_l s _ _ w) (fun h => h)))
  have HC := Lib.hid C
  clear C H hR hS hz
  go_enter Try.func78, Try.ntmps78
  go_wp2_with fail
  refine (HC.out).mono ?_
  intro e w1 hP
  obtain ⟨he, hr, ho⟩ := hP
  obtain rfl : e = .returned (.int .i64 x) := he
  have HR := Lib.hid hr
  have HO := Lib.hid ho
  clear hr ho
  go_wp2_with fail
  go_ret
  exact ⟨rfl, HR.out, (M3_only S _ _ _ w).trans HO.out (fun _ _ h => h)⟩
/-- in one of these phases: what is to be done is done -/
theorem move_yes (s n c : Nat) (A : Option Addr) (fn : FuncId) (first cap : Array Value) (hen : ∀ args W, (callFunc fn args).run Try.prog W = .ok (.enter fn args) W) (R : World → Prop) (S : Nat → Prop) (w : World) (hS : ∀ i, S i → i < w.heap.size) (hR : ∀ w1 w', R w1 → Only (fun b => w.heap.size ≤ b) w1 w' → R w')
    (hin : ∀ W, Only (fun _ => False) w W → Calls Try.prog 77 #[.pointer (some ⟨s, 0, none⟩), .slice A n c] W fun e w' => e = .returned (.bool true) ∧ W = w') (H : ∀ W, Only (fun _ => False) w W → Calls Try.prog fn (first ++ cap) W fun e w1 => e = .returned (.tuple #[]) ∧ R w1 ∧ Only S W w1) :
    Calls Try.prog 78 #[.pointer (some ⟨s, 0, none⟩), .func (.func fn) first cap, .slice A n c] w fun e w' => e = .returned (.int .i64 0) ∧ R w' ∧ Only S w w' :=
  move_of s n c A fn first cap hen 0 R S w hS hR fun W hW h1 h2 h3 => move1_yes _ _ _ s n c A fn first cap hen (fun w1 => R w1 ∧ Only S W w1) W h1 h3 h2 (hin W hW) (H W hW)
theorem move_no (s n c : Nat) (A : Option Addr) (fn : FuncId) (first cap : Array Value) (hen : ∀ args W, (callFunc fn args).run Try.prog W = .ok (.enter fn args) W) (w : World)
    (hin : ∀ W, Only (fun _ => False) w W → Calls Try.prog 77 #[.pointer (some ⟨s, 0, none⟩), .slice A n c] W fun e w' => e = .returned (.bool false) ∧ W = w') :
    Calls Try.prog 78 #[.pointer (some ⟨s, 0, none⟩), .func (.func fn) first cap, .slice A n c] w fun e w' => e = .returned (.int .i64 10) ∧ True ∧ Only (fun _ => False) w w' :=
  move_of s n c A fn first cap hen 10 (fun _ => True) (fun _ => False) w (fun _ h => h.elim) (fun _ _ h _ => h) fun W hW h1 h2 h3 => (move1_no _ _ _ s n c A W h1 h3 (hin W hW)).mono fun e w' h => ⟨h.1, trivial, by rw [← h.2]; exact Only.refl _ _⟩
set_option maxHeartbeats 4000000 in
theorem fail1_on (p s : Nat) (r : Rq) (tr bu : Int) (w : World) (hp : Blk w p 73 #[.pointer (some ⟨s, 0, none⟩)]) (hs : Se w s 1 r tr bu) (ht : 0 ≤ tr ∧ tr ≤ 100000) (hb : tr + 1 ≠ bu) :
    Calls Try.prog 79 #[.pointer (some ⟨p, 0, none⟩)] w fun e w' => e = .returned (.tuple #[]) ∧ Se w' s 1 r (tr + 1) bu ∧ Only (fun i => i = s) w w' := by
  obtain ⟨t1, t2⟩ := ht
  have hps : p ≠ s := Blk.ne_ hp hs (by decide)
  have n1 : ¬ p = s := hps
  have cp : w.cell? ⟨p, 0, none⟩ = some (.pointer (some ⟨s, 0, none⟩)) := by rw [hp.cell]; rfl
  have c0 : w.cell? ⟨s, 0, none⟩ = some (.int .i64 1) := by rw [Blk.cell hs]; rfl
  have c19 : w.cell? ⟨s, 19, none⟩ = some (.int .i64 tr) := by rw [Blk.cell hs]; rfl
  have c20 : w.cell? ⟨s, 20, none⟩ = some (.int .i64 bu) := by rw [Blk.cell hs]; rfl
  have f0 := Blk.frozen hs 0
  have f19 := Blk.frozen hs 19
  have s1 : IntKind.i64.wrap (tr + 1) = tr + 1 := IntWalk.i64_in _ (by omega)
  have d : (tr + 1 == bu) = false := by simpa using hb
  clear hb
  have HS := Lib.hid hs
  clear hp hs hps
  go_enter Try.func79, Try.ntmps79
  go_upto_region 1 with fail
  obtain ⟨W, hW⟩ : ∃ W, W = w.setCell ⟨s, 19, none⟩ (.int .i64 (tr + 1)) := ⟨_, rfl⟩
  rw [← hW]
  have b1 : Blk W s 115 #[.int .i64 1, .int .i64 r.k, .int .i64 r.ck, .int .i64 r.pi, .int .i64 r.px, .int .i64 r.py, .int .i64 r.si, .int .i64 r.sl, .int .i64 r.sh, .int .i64 r.q.qk, .int .i64 r.q.b1, .int .i64 r.q.b2, .int .i64 r.q.b3, .int .i64 r.q.b4, .int .i64 r.q.w1, .int .i64 r.q.w2, .int .i64 r.q.w3, .int .i64 r.q.x, .int .i64 r.q.h, .int .i64 (tr + 1), .int .i64 bu] := by rw [hW]; exact Blk.set_ HS.out 19 _
  have o1 : Only (fun i => i = s) w W := by rw [hW]; exact (Only.refl (fun i => i = s) w).setCell (p := ⟨s, 19, none⟩) (.inr rfl) _
  have d19 : W.cell? ⟨s, 19, none⟩ = some (.int .i64 (tr + 1)) := by rw [b1.cell]; rfl
  have d20 : W.cell? ⟨s, 20, none⟩ = some (.int .i64 bu) := by rw [b1.cell]; rfl
  have d0 : W.cell? ⟨s, 0, none⟩ = some (.int .i64 1) := by rw [b1.cell]; rfl
  have e0 : W.frozen? ⟨s, 0, none⟩ = false := b1.frozen 0
  have dp : W.cell? ⟨p, 0, none⟩ = some (.pointer (some ⟨s, 0, none⟩)) := by rw [hW, World.cell?_setCell_other _ _ _ _ (fun e => n1 (by injection e with e _ _; exact e.symm))]; exact cp
  have HB1 := Lib.hid b1
  have HO1 := Lib.hid o1
  clear b1 o1 hW c0 c19 c20 f0 f19 cp s1
  go_quiet (fail)
  go_wp2_with fail
  go_end0
  exact ⟨rfl, HB1.out.drewN _, HO1.out.drewN _⟩
set_option maxHeartbeats 4000000 in
theorem fail1_end (p s : Nat) (r : Rq) (tr bu : Int) (w : World) (hp : Blk w p 73 #[.pointer (some ⟨s, 0, none⟩)]) (hs : Se w s 1 r tr bu) (ht : 0 ≤ tr ∧ tr ≤ 100000) (hb : tr + 1 = bu) :
    Calls Try.prog 79 #[.pointer (some ⟨p, 0, none⟩)] w fun e w' => e = .returned (.tuple #[]) ∧ Se w' s 2 r (tr + 1) bu ∧ Only (fun i => i = s) w w' := by
  obtain ⟨t1, t2⟩ := ht
  have hps : p ≠ s := Blk.ne_ hp hs (by decide)
  have n1 : ¬ p = s := hps
  have cp : w.cell? ⟨p, 0, none⟩ = some (.pointer (some ⟨s, 0, none⟩)) := by rw [hp.cell]; rfl
  have c0 : w.cell? ⟨s, 0, none⟩ = some (.int .i64 1) := by rw [Blk.cell hs]; rfl
  have c19 : w.cell? ⟨s, 19, none⟩ = some (.int .i64 tr) := by rw [Blk.cell hs]; rfl
  have c20 : w.cell? ⟨s, 20, none⟩ = some (.int .i64 bu) := by rw [Blk.cell hs]; rfl
  have f0 := Blk.frozen hs 0
  have f19 := Blk.frozen hs 19
  have s1 : IntKind.i64.wrap (tr + 1) = tr + 1 := IntWalk.i64_in _ (by omega)
  have d : (tr + 1 == bu) = true := by simpa using hb
  clear hb
  have HS := Lib.hid hs
  clear hp hs hps
  go_enter Try.func79, Try.ntmps79
  go_upto_region 1 with fail
  obtain ⟨W, hW⟩ : ∃ W, W = w.setCell ⟨s, 19, none⟩ (.int .i64 (tr + 1)) := ⟨_, rfl⟩
  rw [← hW]
  have b1 : Blk W s 115 #[.int .i64 1, .int .i64 r.k, .int .i64 r.ck, .int .i64 r.pi, .int .i64 r.px, .int .i64 r.py, .int .i64 r.si, .int .i64 r.sl, .int .i64 r.sh, .int .i64 r.q.qk, .int .i64 r.q.b1, .int .i64 r.q.b2, .int .i64 r.q.b3, .int .i64 r.q.b4, .int .i64 r.q.w1, .int .i64 r.q.w2, .int .i64 r.q.w3, .int .i64 r.q.x, .int .i64 r.q.h, .int .i64 (tr + 1), .int .i64 bu] := by rw [hW]; exact Blk.set_ HS.out 19 _
  have o1 : Only (fun i => i = s) w W := by rw [hW]; exact (Only.refl (fun i => i = s) w).setCell (p := ⟨s, 19, none⟩) (.inr rfl) _
  have d19 : W.cell? ⟨s, 19, none⟩ = some (.int .i64 (tr + 1)) := by rw [b1.cell]; rfl
  have d20 : W.cell? ⟨s, 20, none⟩ = some (.int .i64 bu) := by rw [b1.cell]; rfl
  have d0 : W.cell? ⟨s, 0, none⟩ = some (.int .i64 1) := by rw [b1.cell]; rfl
  have e0 : W.frozen? ⟨s, 0, none⟩ = false := b1.frozen 0
  have dp : W.cell? ⟨p, 0, none⟩ = some (.pointer (some ⟨s, 0, none⟩)) := by rw [hW, World.cell?_setCell_other _ _ _ _ (fun e => n1 (by injection e with e _ _; exact e.symm))]; exact cp
  have HB1 := Lib.hid b1
  have HO1 := Lib.hid o1
  clear b1 o1 hW c0 c19 c20 f0 f19 cp s1
  go_quiet (fail)
  go_wp2_with fail
  go_end0
  exact ⟨rfl, (HB1.out.drewN _).set_ 0 (.int .i64 2), (HO1.out.drewN _).setCell (p := ⟨s, 0, none⟩) (.inr rfl) _⟩
end Go.Proofs.Ytencgokpbfkeiaa
