/- A session (layer 32): Fail, Grant; a query that fails waits. -/
import Derived.Test.YtencgokpbfkeiaaI3
set_option linter.unusedVariables false
namespace Go.Proofs.Ytencgokpbfkeiaa
open Go.ChangeShapes Go.WideShapes Go.ChangeAt Go.RowKit
theorem in_kept (s b n : Nat) (ph : Int) (r : Rq) (tr bu : Int) (w : World) (cs : Array Value) (zs : List Int) (res : Bool) (hs : Se w s ph r tr bu) (hb : Blk w b 82 cs) (hcs : cs = (iv zs).toArray) (hn : n = zs.length) (hz : decide (0 ≤ idx zs ph) = res) (hl : zs.length ≤ 100) :
    ∀ W, Only (fun _ => False) w W → Calls Try.prog 77 #[.pointer (some ⟨s, 0, none⟩), .slice (some ⟨b, 0, none⟩) n n] W fun e w' => e = .returned (.bool res) ∧ W = w' := fun W hW => by
  subst hn
  exact in_any s ph r tr bu _ zs.length zs.length _ zs res W (hs.blk_ hW) (reads_of_blk (hW.blk hb (fun h => h)) hcs) (by simp only [maxLen]; omega) hz
set_option maxHeartbeats 2000000 in
theorem grant1 (p s : Nat) (ph : Int) (r : Rq) (tr bu : Int) (w : World) (hp : Blk w p 73 #[.pointer (some ⟨s, 0, none⟩)]) (hs : Se w s ph r tr bu) :
    Calls Try.prog 89 #[.pointer (some ⟨p, 0, none⟩)] w fun e w' => e = .returned (.tuple #[]) ∧ Se w' s 3 r tr bu ∧ Only (fun i => i = s) w w' := by
  have cp : w.cell? ⟨p, 0, none⟩ = some (.pointer (some ⟨s, 0, none⟩)) := by rw [hp.cell]; rfl
  have c0 : w.cell? ⟨s, 0, none⟩ = some (.int .i64 ph) := by rw [Blk.cell hs]; rfl
  have f0 := Blk.frozen hs 0
  have HS := Lib.hid hs
  clear hp hs
  go_enter Try.func89, Try.ntmps89
  go_wp2_with fail
  go_end0
  exact ⟨rfl, Blk.set_ HS.out 0 (.int .i64 3), (Only.refl (fun i => i = s) w).setCell (p := ⟨s, 0, none⟩) (.inr rfl) _⟩
set_option maxRecDepth 100000 in
set_option maxHeartbeats 4000000 in
theorem s_fail_on (s : Nat) (ph : Int) (r : Rq) (tr bu : Int) (w : World) (hs : Se w s ph r tr bu) (hp : ph = 1) (ht : 0 ≤ tr ∧ tr ≤ 100000) (hb : tr + 1 ≠ bu) :
    Calls Try.prog 51 #[.pointer (some ⟨s, 0, none⟩)] w fun e w' => e = .returned (.int .i64 0) ∧ Se w' s 1 r (tr + 1) bu ∧ Only (fun i => i = s) w w' := by
  have hmf : ∀ (fn : Fn) (first cap : Array Value) (w : World), (Instr.makeFunc fn first cap).run Try.prog w = .ok (.func fn first cap) w := fun _ _ _ _ => rfl
  have e1 : (w.alloc (.cells #[.pointer (some ⟨s, 0, none⟩)] 73)).heap.size = w.heap.size + 1 := by simp
  have e2 : ((w.alloc (.cells #[.pointer (some ⟨s, 0, none⟩)] 73)).alloc (.cells #[.int .i64 1] 82)).heap.size = w.heap.size + 2 := by simp
  have o2 : Only (fun _ => False) w ((w.alloc (.cells #[.pointer (some ⟨s, 0, none⟩)] 73)).alloc (.cells #[.int .i64 1] 82)) := (only_new w _).alloc _
  have hsl := Blk.lt hs
  have p2 : Blk ((w.alloc (.cells #[.pointer (some ⟨s, 0, none⟩)] 73)).alloc (.cells #[.int .i64 1] 82)) w.heap.size 73 #[.pointer (some ⟨s, 0, none⟩)] := (Blk.new w 73 _).alloc _
  have l2 : Blk ((w.alloc (.cells #[.pointer (some ⟨s, 0, none⟩)] 73)).alloc (.cells #[.int .i64 1] 82)) (w.heap.size + 1) 82 #[.int .i64 1] := by
    have h := Blk.new (w.alloc (.cells #[.pointer (some ⟨s, 0, none⟩)] 73)) 82 #[.int .i64 1]
    rw [e1] at h
    exact h
  have s2 : Se ((w.alloc (.cells #[.pointer (some ⟨s, 0, none⟩)] 73)).alloc (.cells #[.int .i64 1] 82)) s ph r tr bu := hs.blk_ o2
  have IN := in_kept s (w.heap.size + 1) 1 ph r tr bu _ #[.int .i64 1] [1] true s2 l2 rfl rfl (by rw [idx_one]; exact decide_eq_true (by omega)) (by decide)
  have M := move_yes s 1 1 (some ⟨w.heap.size + 1, 0, none⟩) 79 #[] #[.pointer (some ⟨w.heap.size, 0, none⟩)] (fun args W => by kernel_rfl) (fun w' => Se w' s 1 r (tr + 1) bu) (fun i => i = s) _ (fun i h => by rw [e2]; omega) (fun w1 w' h1 h2 => h2.blk h1 (fun h => by rw [e2] at h; omega)) IN
    (fun W hW => fail1_on _ s r tr bu W (hW.blk p2 (fun h => h)) (by rw [← hp]; exact s2.blk_ hW) ht hb)
  have HM := Lib.hid M
  have HO2 := Lib.hid o2
  clear M IN o2 e1 e2 p2 l2 s2 hs
  go_enter Try.func51, Try.ntmps51
  go_wp2_with fail
  refine (HM.out).mono ?_
  rintro e w3 ⟨rfl, hR, hO⟩
  have HR := Lib.hid hR
  have HO := Lib.hid hO
  clear hR hO
  go_wp2_with fail
  go_ret
  exact ⟨rfl, HR.out, (HO2.out.mono (fun _ _ h => h.elim)).trans HO.out (fun _ _ h => h)⟩
set_option maxRecDepth 100000 in
set_option maxHeartbeats 4000000 in
theorem s_fail_end (s : Nat) (ph : Int) (r : Rq) (tr bu : Int) (w : World) (hs : Se w s ph r tr bu) (hp : ph = 1) (ht : 0 ≤ tr ∧ tr ≤ 100000) (hb : tr + 1 = bu) :
    Calls Try.prog 51 #[.pointer (some ⟨s, 0, none⟩)] w fun e w' => e = .returned (.int .i64 0) ∧ Se w' s 2 r (tr + 1) bu ∧ Only (fun i => i = s) w w' := by
  have hmf : ∀ (fn : Fn) (first cap : Array Value) (w : World), (Instr.makeFunc fn first cap).run Try.prog w = .ok (.func fn first cap) w := fun _ _ _ _ => rfl
  have e1 : (w.alloc (.cells #[.pointer (some ⟨s, 0, none⟩)] 73)).heap.size = w.heap.size + 1 := by simp
  have e2 : ((w.alloc (.cells #[.pointer (some ⟨s, 0, none⟩)] 73)).alloc (.cells #[.int .i64 1] 82)).heap.size = w.heap.size + 2 := by simp
  have o2 : Only (fun _ => False) w ((w.alloc (.cells #[.pointer (some ⟨s, 0, none⟩)] 73)).alloc (.cells #[.int .i64 1] 82)) := (only_new w _).alloc _
  have hsl := Blk.lt hs
  have p2 : Blk ((w.alloc (.cells #[.pointer (some ⟨s, 0, none⟩)] 73)).alloc (.cells #[.int .i64 1] 82)) w.heap.size 73 #[.pointer (some ⟨s, 0, none⟩)] := (Blk.new w 73 _).alloc _
  have l2 : Blk ((w.alloc (.cells #[.pointer (some ⟨s, 0, none⟩)] 73)).alloc (.cells #[.int .i64 1] 82)) (w.heap.size + 1) 82 #[.int .i64 1] := by
    have h := Blk.new (w.alloc (.cells #[.pointer (some ⟨s, 0, none⟩)] 73)) 82 #[.int .i64 1]
    rw [e1] at h
    exact h
  have s2 : Se ((w.alloc (.cells #[.pointer (some ⟨s, 0, none⟩)] 73)).alloc (.cells #[.int .i64 1] 82)) s ph r tr bu := hs.blk_ o2
  have IN := in_kept s (w.heap.size + 1) 1 ph r tr bu _ #[.int .i64 1] [1] true s2 l2 rfl rfl (by rw [idx_one]; exact decide_eq_true (by omega)) (by decide)
  have M := move_yes s 1 1 (some ⟨w.heap.size + 1, 0, none⟩) 79 #[] #[.pointer (some ⟨w.heap.size, 0, none⟩)] (fun args W => by kernel_rfl) (fun w' => Se w' s 2 r (tr + 1) bu) (fun i => i = s) _ (fun i h => by rw [e2]; omega) (fun w1 w' h1 h2 => h2.blk h1 (fun h => by rw [e2] at h; omega)) IN
    (fun W hW => fail1_end _ s r tr bu W (hW.blk p2 (fun h => h)) (by rw [← hp]; exact s2.blk_ hW) ht hb)
  have HM := Lib.hid M
  have HO2 := Lib.hid o2
  clear M IN o2 e1 e2 p2 l2 s2 hs
  go_enter Try.func51, Try.ntmps51
  go_wp2_with fail
  refine (HM.out).mono ?_
  rintro e w3 ⟨rfl, hR, hO⟩
  have HR := Lib.hid hR
  have HO := Lib.hid hO
  clear hR hO
  go_wp2_with fail
  go_ret
  exact ⟨rfl, HR.out, (HO2.out.mono (fun _ _ h => h.elim)).trans HO.out (fun _ _ h => h)⟩
set_option maxRecDepth 100000 in
set_option maxHeartbeats 4000000 in
theorem s_fail_no (s : Nat) (ph : Int) (r : Rq) (tr bu : Int) (w : World) (hs : Se w s ph r tr bu) (hp : ph ≠ 1) :
    Calls Try.prog 51 #[.pointer (some ⟨s, 0, none⟩)] w fun e w' => e = .returned (.int .i64 10) ∧ Only (fun _ => False) w w' := by
  have hmf : ∀ (fn : Fn) (first cap : Array Value) (w : World), (Instr.makeFunc fn first cap).run Try.prog w = .ok (.func fn first cap) w := fun _ _ _ _ => rfl
  have e1 : (w.alloc (.cells #[.pointer (some ⟨s, 0, none⟩)] 73)).heap.size = w.heap.size + 1 := by simp
  have e2 : ((w.alloc (.cells #[.pointer (some ⟨s, 0, none⟩)] 73)).alloc (.cells #[.int .i64 1] 82)).heap.size = w.heap.size + 2 := by simp
  have o2 : Only (fun _ => False) w ((w.alloc (.cells #[.pointer (some ⟨s, 0, none⟩)] 73)).alloc (.cells #[.int .i64 1] 82)) := (only_new w _).alloc _
  have hsl := Blk.lt hs
  have p2 : Blk ((w.alloc (.cells #[.pointer (some ⟨s, 0, none⟩)] 73)).alloc (.cells #[.int .i64 1] 82)) w.heap.size 73 #[.pointer (some ⟨s, 0, none⟩)] := (Blk.new w 73 _).alloc _
  have l2 : Blk ((w.alloc (.cells #[.pointer (some ⟨s, 0, none⟩)] 73)).alloc (.cells #[.int .i64 1] 82)) (w.heap.size + 1) 82 #[.int .i64 1] := by
    have h := Blk.new (w.alloc (.cells #[.pointer (some ⟨s, 0, none⟩)] 73)) 82 #[.int .i64 1]
    rw [e1] at h
    exact h
  have s2 : Se ((w.alloc (.cells #[.pointer (some ⟨s, 0, none⟩)] 73)).alloc (.cells #[.int .i64 1] 82)) s ph r tr bu := hs.blk_ o2
  have IN := in_kept s (w.heap.size + 1) 1 ph r tr bu _ #[.int .i64 1] [1] false s2 l2 rfl rfl (by rw [idx_one]; exact decide_eq_false (by omega)) (by decide)
  have M := move_no s 1 1 (some ⟨w.heap.size + 1, 0, none⟩) 79 #[] #[.pointer (some ⟨w.heap.size, 0, none⟩)] (fun args W => by kernel_rfl) _ IN
  have HM := Lib.hid M
  have HO2 := Lib.hid o2
  clear M IN o2 e1 e2 p2 l2 s2 hs
  go_enter Try.func51, Try.ntmps51
  go_wp2_with fail
  refine (HM.out).mono ?_
  rintro e w3 ⟨rfl, hR, hO⟩
  have HR := Lib.hid hR
  have HO := Lib.hid hO
  clear hR hO
  go_wp2_with fail
  go_ret
  exact ⟨rfl, HO2.out.trans HO.out (fun _ _ h => h)⟩
set_option maxRecDepth 100000 in
set_option maxHeartbeats 4000000 in
theorem s_grant (s : Nat) (ph : Int) (r : Rq) (tr bu : Int) (w : World) (hs : Se w s ph r tr bu) (hp : ph = 2) :
    Calls Try.prog 70 #[.pointer (some ⟨s, 0, none⟩)] w fun e w' => e = .returned (.int .i64 0) ∧ Se w' s 3 r tr bu ∧ Only (fun i => i = s) w w' := by
  have hmf : ∀ (fn : Fn) (first cap : Array Value) (w : World), (Instr.makeFunc fn first cap).run Try.prog w = .ok (.func fn first cap) w := fun _ _ _ _ => rfl
  have e1 : (w.alloc (.cells #[.pointer (some ⟨s, 0, none⟩)] 73)).heap.size = w.heap.size + 1 := by simp
  have e2 : ((w.alloc (.cells #[.pointer (some ⟨s, 0, none⟩)] 73)).alloc (.cells #[.int .i64 2] 82)).heap.size = w.heap.size + 2 := by simp
  have o2 : Only (fun _ => False) w ((w.alloc (.cells #[.pointer (some ⟨s, 0, none⟩)] 73)).alloc (.cells #[.int .i64 2] 82)) := (only_new w _).alloc _
  have hsl := Blk.lt hs
  have p2 : Blk ((w.alloc (.cells #[.pointer (some ⟨s, 0, none⟩)] 73)).alloc (.cells #[.int .i64 2] 82)) w.heap.size 73 #[.pointer (some ⟨s, 0, none⟩)] := (Blk.new w 73 _).alloc _
  have l2 : Blk ((w.alloc (.cells #[.pointer (some ⟨s, 0, none⟩)] 73)).alloc (.cells #[.int .i64 2] 82)) (w.heap.size + 1) 82 #[.int .i64 2] := by
    have h := Blk.new (w.alloc (.cells #[.pointer (some ⟨s, 0, none⟩)] 73)) 82 #[.int .i64 2]
    rw [e1] at h
    exact h
  have s2 : Se ((w.alloc (.cells #[.pointer (some ⟨s, 0, none⟩)] 73)).alloc (.cells #[.int .i64 2] 82)) s ph r tr bu := hs.blk_ o2
  have IN := in_kept s (w.heap.size + 1) 1 ph r tr bu _ #[.int .i64 2] [2] true s2 l2 rfl rfl (by rw [idx_one]; exact decide_eq_true (by omega)) (by decide)
  have M := move_yes s 1 1 (some ⟨w.heap.size + 1, 0, none⟩) 89 #[] #[.pointer (some ⟨w.heap.size, 0, none⟩)] (fun args W => by kernel_rfl) (fun w' => Se w' s 3 r tr bu) (fun i => i = s) _ (fun i h => by rw [e2]; omega) (fun w1 w' h1 h2 => h2.blk h1 (fun h => by rw [e2] at h; omega)) IN
    (fun W hW => grant1 _ s ph r tr bu W (hW.blk p2 (fun h => h)) (s2.blk_ hW))
  have HM := Lib.hid M
  have HO2 := Lib.hid o2
  clear M IN o2 e1 e2 p2 l2 s2 hs
  go_enter Try.func70, Try.ntmps70
  go_wp2_with fail
  refine (HM.out).mono ?_
  rintro e w3 ⟨rfl, hR, hO⟩
  have HR := Lib.hid hR
  have HO := Lib.hid hO
  clear hR hO
  go_wp2_with fail
  go_ret
  exact ⟨rfl, HR.out, (HO2.out.mono (fun _ _ h => h.elim)).trans HO.out (fun _ _ h => h)⟩
set_option maxRecDepth 100000 in
set_option maxHeartbeats 4000000 in
theorem s_grant_no (s : Nat) (ph : Int) (r : Rq) (tr bu : Int) (w : World) (hs : Se w s ph r tr bu) (hp : ph ≠ 2) :
    Calls Try.prog 70 #[.pointer (some ⟨s, 0, none⟩)] w fun e w' => e = .returned (.int .i64 10) ∧ Only (fun _ => False) w w' := by
  have hmf : ∀ (fn : Fn) (first cap : Array Value) (w : World), (Instr.makeFunc fn first cap).run Try.prog w = .ok (.func fn first cap) w := fun _ _ _ _ => rfl
  have e1 : (w.alloc (.cells #[.pointer (some ⟨s, 0, none⟩)] 73)).heap.size = w.heap.size + 1 := by simp
  have e2 : ((w.alloc (.cells #[.pointer (some ⟨s, 0, none⟩)] 73)).alloc (.cells #[.int .i64 2] 82)).heap.size = w.heap.size + 2 := by simp
  have o2 : Only (fun _ => False) w ((w.alloc (.cells #[.pointer (some ⟨s, 0, none⟩)] 73)).alloc (.cells #[.int .i64 2] 82)) := (only_new w _).alloc _
  have hsl := Blk.lt hs
  have p2 : Blk ((w.alloc (.cells #[.pointer (some ⟨s, 0, none⟩)] 73)).alloc (.cells #[.int .i64 2] 82)) w.heap.size 73 #[.pointer (some ⟨s, 0, none⟩)] := (Blk.new w 73 _).alloc _
  have l2 : Blk ((w.alloc (.cells #[.pointer (some ⟨s, 0, none⟩)] 73)).alloc (.cells #[.int .i64 2] 82)) (w.heap.size + 1) 82 #[.int .i64 2] := by
    have h := Blk.new (w.alloc (.cells #[.pointer (some ⟨s, 0, none⟩)] 73)) 82 #[.int .i64 2]
    rw [e1] at h
    exact h
  have s2 : Se ((w.alloc (.cells #[.pointer (some ⟨s, 0, none⟩)] 73)).alloc (.cells #[.int .i64 2] 82)) s ph r tr bu := hs.blk_ o2
  have IN := in_kept s (w.heap.size + 1) 1 ph r tr bu _ #[.int .i64 2] [2] false s2 l2 rfl rfl (by rw [idx_one]; exact decide_eq_false (by omega)) (by decide)
  have M := move_no s 1 1 (some ⟨w.heap.size + 1, 0, none⟩) 89 #[] #[.pointer (some ⟨w.heap.size, 0, none⟩)] (fun args W => by kernel_rfl) _ IN
  have HM := Lib.hid M
  have HO2 := Lib.hid o2
  clear M IN o2 e1 e2 p2 l2 s2 hs
  go_enter Try.func70, Try.ntmps70
  go_wp2_with fail
  refine (HM.out).mono ?_
  rintro e w3 ⟨rfl, hR, hO⟩
  have HR := Lib.hid hR
  have HO := Lib.hid hO
  clear hR hO
  go_wp2_with fail
  go_ret
  exact ⟨rfl, HO2.out.trans HO.out (fun _ _ h => h)⟩
/-- a query about a number -/
def stab0 : Rq := ⟨2, 0, 0, 0, 0, 0, 0, 0, ⟨5, 0, 0, 0, 0, 0, 0, 0, 0, 0⟩⟩
theorem se_below {w w' : World} {s : Nat} {base : Nat} (hb : base ≤ s) (hl : s < w.heap.size) (ho : Only (fun i => i = s) w w') : Below base w w' := ho.below (by omega) (fun i hi e => by omega)
set_option maxRecDepth 100000 in
set_option maxHeartbeats 4000000 in
theorem lives32 (w : World) : Calls Try.prog 42 #[] w fun e w' => e = .returned (.bool true) ∧ Below w.heap.size w w' := by
  have g0 : stab0.good = true := by decide
  have H0 := Lib.hid g0
  clear g0
  go_enter Try.func42, Try.ntmps42
  go_wp2_with fail
  refine (s_new 1 (by omega) _).mono ?_
  rintro e w1 ⟨rfl, s1, k1⟩
  have HS1 := Lib.hid s1
  have HK1 := Lib.hid k1
  clear s1 k1
  go_wp2_with fail
  refine (start_reads w.heap.size 0 _ stab0 0 1 w1 HS1.out rfl H0.out rfl (by omega)).mono ?_
  rintro e w2 ⟨rfl, s2, o2⟩
  have HS2 := Lib.hid s2
  have HK2 := Lib.hid (HK1.out.trans (se_below (Nat.le_refl _) (Blk.lt HS1.out) o2))
  clear s2 o2
  go_wp2_with fail
  refine (s_phase w.heap.size 1 _ 0 1 w2 HS2.out).mono ?_
  rintro e w' ⟨rfl, rfl⟩
  go_wp2_with fail
  refine (s_fail_end w.heap.size 1 _ 0 1 w2 HS2.out rfl (by omega) (by omega)).mono ?_
  rintro e w3 ⟨rfl, s3, o3⟩
  have HS3 := Lib.hid s3
  have HK3 := Lib.hid (HK2.out.trans (se_below (Nat.le_refl _) (Blk.lt HS2.out) o3))
  clear s3 o3
  go_wp2_with fail
  refine (s_phase w.heap.size 2 _ _ 1 w3 HS3.out).mono ?_
  rintro e w' ⟨rfl, rfl⟩
  go_wp2_with fail
  go_ret
  exact ⟨rfl, HK3.out⟩
end Go.Proofs.Ytencgokpbfkeiaa
