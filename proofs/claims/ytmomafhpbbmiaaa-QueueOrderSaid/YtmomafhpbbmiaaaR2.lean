/- A queue that is bounded (layer 11): where one waits (find). -/
import Derived.Test.YtmomafhpbbmiaaaR1
import Derived.Test.YtmomafhpbbmiaaaQ
import Derived.Defers
import Derived.Recover
import Derived.WalkSmall
set_option linter.unusedVariables false
namespace Go.Proofs.Ytmomafhpbbmiaaa
open Go.ChangeShapes Go.WideShapes Go.ChangeAt Go.RowKit
set_option maxHeartbeats 1000000 in
theorem find1_idle (p : Addr) (w : World) :
    CallsD Try.prog 42 #[.pointer (some p)] .returning w fun e u' w' => e = .returned (.tuple #[]) ∧ u' = .returning ∧ w' = w := by
  refine callsD_of_wpS Try.func42 rfl fun c₀ cs hu => ?_
  apply wpS_seq
  apply wpS_region
  simp [wpOpsS, go_sem, recoverD, hu, Try.ntmps42, Exit.thenS]
  rw [show (#[Value.pointer (some p)] ++ ((Array.replicate 2 undef).setIfInBounds 0 Value.nilIface).setIfInBounds 1 (Value.bool false)) = #[.pointer (some p), .nilIface, .bool false] from rfl]
  refine wpS_of_wp ?_
  go_wp2
  cases c₀
  simp_all [bodyPostS, results, Try.results42]
theorem idx_append : ∀ (a b : List Int) (v : Int), idx (a ++ b) v = if 0 ≤ idx a v then idx a v else if 0 ≤ idx b v then a.length + idx b v else -1
  | [], b, v => by
    have := idx_bd b v
    simp only [List.nil_append, idx, List.length_nil]
    rw [if_neg (by omega)]
    split <;> omega
  | x :: a, b, v => by
    have h := idx_append a b v
    have ha := idx_bd a v
    have hb := idx_bd b v
    simp only [List.cons_append, idx, List.length_cons]
    rw [h]
    have e : ((a.length + 1 : Nat) : Int) = (a.length : Int) + 1 := by omega
    rw [e]
    grind
def BX (w : World) : World := w.alloc (.cells #[.int .i64 0] 3)
set_option maxHeartbeats 2000000 in
theorem find_nil (v : Int) (w : World) : Calls Try.prog 35 #[.pointer none, .int .i64 v] w fun e w' => e = .returned (.int .i64 (-1)) ∧ Below w.heap.size w w' := by
  have hmf : ∀ (fn : Fn) (first cap : Array Value) (w : World), (Instr.makeFunc fn first cap).run Try.prog w = .ok (.func fn first cap) w := fun _ _ _ _ => rfl
  go_enter_defers Try.func35, Try.ntmps35
  go_wp2_with (go_at_call 21; refine (ring_len_nil _).mono ?_; rintro e w' ⟨rfl, rfl⟩)
  refine leaves_cons (f := 42) (args := #[.pointer (some ⟨w.heap.size, 0, none⟩)]) (by simp) (by simp [go_sem]) ?_
  refine (find1_idle _ _).mono ?_
  rintro e u' w'' ⟨rfl, rfl, rfl⟩
  have b0 := (Blk.new w 3 #[.int .i64 0]).set_ 0 (.int .i64 (-1))
  have d0 : ((w.alloc (.cells #[.int .i64 0] 3)).setCell ⟨w.heap.size, 0, none⟩ (.int .i64 (-1))).cell? ⟨w.heap.size, 0, none⟩ = some (.int .i64 (-1)) := by rw [b0.cell]; rfl
  refine ⟨.int .i64 (-1), by simp [results, Try.results35, go_sem, d0], rfl, ?_⟩
  repeat (first | with_reducible exact Below.refl _ _ | with_reducible assumption | with_reducible refine Below.setCell ?_ (by first | omega | (simp <;> omega)) _ | with_reducible refine below_drewN ?_ _ | with_reducible refine Below.drew ?_ | with_reducible refine Below.alloc ?_ (by first | omega | (simp <;> omega)) _)
set_option maxHeartbeats 2000000 in
theorem find_empty (base g : Nat) (most : Int) (x : Value) (v : Int) (w : World) (hg : Rg w base g most x []) : Calls Try.prog 35 #[.pointer (some ⟨g, 0, none⟩), .int .i64 v] w fun e w' => e = .returned (.int .i64 (-1)) ∧ Below w.heap.size w w' := by
  have hmf : ∀ (fn : Fn) (first cap : Array Value) (w : World), (Instr.makeFunc fn first cap).run Try.prog w = .ok (.func fn first cap) w := fun _ _ _ _ => rfl
  have HG : Hid (Rg (w.alloc (.cells #[.int .i64 0] 3)) base g most x []) := Lib.hid (hg.keep (only_new (S := fun _ => False) w _) (fun h => h) (fun _ _ h => h))
  clear hg
  go_enter_defers Try.func35, Try.ntmps35
  go_wp2_with (go_at_call 21; refine (ring_len base g most x [] _ HG.out).mono ?_; rintro e w' ⟨rfl, rfl⟩)
  refine leaves_cons (f := 42) (args := #[.pointer (some ⟨w.heap.size, 0, none⟩)]) (by simp) (by simp [go_sem]) ?_
  refine (find1_idle _ _).mono ?_
  rintro e u' w'' ⟨rfl, rfl, rfl⟩
  have b0 := (Blk.new w 3 #[.int .i64 0]).set_ 0 (.int .i64 (-1))
  have d0 : ((w.alloc (.cells #[.int .i64 0] 3)).setCell ⟨w.heap.size, 0, none⟩ (.int .i64 (-1))).cell? ⟨w.heap.size, 0, none⟩ = some (.int .i64 (-1)) := by rw [b0.cell]; rfl
  refine ⟨.int .i64 (-1), by simp [results, Try.results35, go_sem, d0], rfl, ?_⟩
  repeat (first | with_reducible exact Below.refl _ _ | with_reducible assumption | with_reducible refine Below.setCell ?_ (by first | omega | (simp <;> omega)) _ | with_reducible refine below_drewN ?_ _ | with_reducible refine Below.drew ?_ | with_reducible refine Below.alloc ?_ (by first | omega | (simp <;> omega)) _)
set_option maxHeartbeats 4000000 in
theorem find_a0 (base g b S h m st B : Nat) (most : Int) (P1 P2 : List Int) (v : Int) (L : List Int) (w : World) (hg : Rg w base g most (.slice (some ⟨b, 0, none⟩) S S) L) (hL : L.length = m) (hb : Blk w g 59 #[.int .i64 most, .slice (some ⟨b, 0, none⟩) S S, .int .i64 h, .int .i64 (m : Nat)])
    (h0 : 0 < m) (hh : h < S) (hmS : m ≤ S) (hS : S ≤ 65536) (hst : S - h < m) (hs2 : st = S - h) (r1 : Reads w B 1 (some ⟨b, h, none⟩) st (iv P1)) (r2 : Reads w B 1 (some ⟨b, 0, none⟩) (m - st) (iv P2)) (hB : B ≤ w.heap.size) (i1 : 0 ≤ idx P1 v) :
    Calls Try.prog 35 #[.pointer (some ⟨g, 0, none⟩), .int .i64 v] w fun e w' => e = .returned (.int .i64 (idx P1 v)) ∧ Below w.heap.size w w' := by
  have hmf : ∀ (fn : Fn) (first cap : Array Value) (w : World), (Instr.makeFunc fn first cap).run Try.prog w = .ok (.func fn first cap) w := fun _ _ _ _ => rfl
  have HG : Hid (Rg (w.alloc (.cells #[.int .i64 0] 3)) base g most (.slice (some ⟨b, 0, none⟩) S S) L) := Lib.hid (hg.keep (only_new (S := fun _ => False) w _) (fun h => h) (fun _ _ h => h))
  have hb' : Blk (w.alloc (.cells #[.int .i64 0] 3)) g 59 #[.int .i64 most, .slice (some ⟨b, 0, none⟩) S S, .int .i64 h, .int .i64 (m : Nat)] := hb.alloc _
  have c1 : (w.alloc (.cells #[.int .i64 0] 3)).cell? ⟨g, 1, none⟩ = some (.slice (some ⟨b, 0, none⟩) S S) := by rw [hb'.cell]; rfl
  have c2 : (w.alloc (.cells #[.int .i64 0] 3)).cell? ⟨g, 2, none⟩ = some (.int .i64 h) := by rw [hb'.cell]; rfl
  have c3 : (w.alloc (.cells #[.int .i64 0] 3)).cell? ⟨g, 3, none⟩ = some (.int .i64 (m : Nat)) := by rw [hb'.cell]; rfl
  have R1 : ∀ c q, Calls Try.prog 43 #[.slice (some ⟨b, h, none⟩) st c, .int .i64 v] ((w.alloc (.cells #[.int .i64 0] 3)).drewN q) fun e w' => e = .returned (.int .i64 (idx P1 v)) ∧ (w.alloc (.cells #[.int .i64 0] 3)).drewN q = w' := fun c q => index_any _ st c B P1 v _ ((r1.alloc hB _).drewN q) (by simp only [maxLen]; omega)
  have R2 : ∀ c q, Calls Try.prog 43 #[.slice (some ⟨b, 0, none⟩) (m - st) c, .int .i64 v] ((w.alloc (.cells #[.int .i64 0] 3)).drewN q) fun e w' => e = .returned (.int .i64 (idx P2 v)) ∧ (w.alloc (.cells #[.int .i64 0] 3)).drewN q = w' := fun c q => index_any _ (m - st) c B P2 v _ ((r2.alloc hB _).drewN q) (by simp only [maxLen]; omega)
  have HR1 := Lib.hid R1
  have HR2 := Lib.hid R2
  have bd1 := idx_bd P1 v
  have bd2 := idx_bd P2 v
  have l1 := r1.len
  have l2 := r2.len
  have w1 : IntKind.i64.wrap ((S : Int) - (h : Int)) = ((st : Nat) : Int) := by rw [IntWalk.i64_in _ (by omega)]; omega
  have w2 : IntKind.i64.wrap ((h : Int) + (st : Int)) = ((h + st : Nat) : Int) := by rw [IntWalk.i64_in _ (by omega)]; omega
  have w3 : IntKind.i64.wrap ((m : Int) - (st : Int)) = ((m - st : Nat) : Int) := by rw [IntWalk.i64_in _ (by omega)]; omega
  have hst' : decide ((st : Int) < (m : Int)) = true := by simp; omega
  have j1 : (0 : Int) ≤ (h : Int) := by omega
  have j2 : (0 : Int) ≤ (h : Int) + (st : Int) := by omega
  have j3 : (h : Int) + (st : Int) ≤ (S : Int) := by omega
  have j8 : ((h : Int) + (st : Int)).toNat = h + st := by omega
  have j9 : h ≤ h + st := by omega
  have j4 : (0 : Int) ≤ ((m - st : Nat) : Int) := by omega
  have j5 : ((m - st : Nat) : Int) ≤ (S : Int) := by omega
  have j6 : ¬ (S = h) := by omega
  have j7 : h + st - h = st := by omega
  generalize idx P1 v = x1 at *
  generalize idx P2 v = x2 at *
  have hLz : ((L.length : Nat) : Int) = (m : Int) := by omega
  have HL := Lib.hid hLz
  clear hg hb hb' r1 r2 R1 R2 hLz hs2
  go_enter_defers Try.func35, Try.ntmps35
  go_wp2_with (go_at_call 21; refine (ring_len base g most _ L _ HG.out).mono ?_; rintro e w' ⟨rfl, rfl⟩; rw [HL.out])
  go_quiet (fail)
  go_wp2_with fail
  go_quiet ((go_at_call 43; exact qSame2 (HR1.out _ _)))
  go_wp2_with fail
  refine leaves_cons (f := 42) (args := #[.pointer (some ⟨w.heap.size, 0, none⟩)]) (by simp) (by simp [go_sem]) ?_
  refine (find1_idle _ _).mono ?_
  rintro e u' w'' ⟨rfl, rfl, rfl⟩
  have b0 : ∀ q u, Blk (((w.alloc (.cells #[.int .i64 0] 3)).drewN q).setCell ⟨w.heap.size, 0, none⟩ u) w.heap.size 3 #[u] := fun q u => ((Blk.new w 3 #[.int .i64 0]).drewN q).set_ 0 u
  have d0 : ∀ q u, (((w.alloc (.cells #[.int .i64 0] 3)).drewN q).setCell ⟨w.heap.size, 0, none⟩ u).cell? ⟨w.heap.size, 0, none⟩ = some u := fun q u => by rw [(b0 q u).cell]; rfl
  refine ⟨.int .i64 (x1), by simp [results, Try.results35, go_sem, d0], rfl, ?_⟩
  repeat (first | with_reducible exact Below.refl _ _ | with_reducible assumption | with_reducible refine Below.setCell ?_ (by first | omega | (simp <;> omega)) _ | with_reducible refine below_drewN ?_ _ | with_reducible refine Below.drew ?_ | with_reducible refine Below.alloc ?_ (by first | omega | (simp <;> omega)) _)
set_option maxHeartbeats 4000000 in
theorem find_a1 (base g b S h m st B : Nat) (most : Int) (P1 P2 : List Int) (v : Int) (L : List Int) (w : World) (hg : Rg w base g most (.slice (some ⟨b, 0, none⟩) S S) L) (hL : L.length = m) (hb : Blk w g 59 #[.int .i64 most, .slice (some ⟨b, 0, none⟩) S S, .int .i64 h, .int .i64 (m : Nat)])
    (h0 : 0 < m) (hh : h < S) (hmS : m ≤ S) (hS : S ≤ 65536) (hst : S - h < m) (hs2 : st = S - h) (r1 : Reads w B 1 (some ⟨b, h, none⟩) st (iv P1)) (r2 : Reads w B 1 (some ⟨b, 0, none⟩) (m - st) (iv P2)) (hB : B ≤ w.heap.size) (i1 : idx P1 v < 0) (i2 : 0 ≤ idx P2 v) :
    Calls Try.prog 35 #[.pointer (some ⟨g, 0, none⟩), .int .i64 v] w fun e w' => e = .returned (.int .i64 ((st : Int) + idx P2 v)) ∧ Below w.heap.size w w' := by
  have hmf : ∀ (fn : Fn) (first cap : Array Value) (w : World), (Instr.makeFunc fn first cap).run Try.prog w = .ok (.func fn first cap) w := fun _ _ _ _ => rfl
  have HG : Hid (Rg (w.alloc (.cells #[.int .i64 0] 3)) base g most (.slice (some ⟨b, 0, none⟩) S S) L) := Lib.hid (hg.keep (only_new (S := fun _ => False) w _) (fun h => h) (fun _ _ h => h))
  have hb' : Blk (w.alloc (.cells #[.int .i64 0] 3)) g 59 #[.int .i64 most, .slice (some ⟨b, 0, none⟩) S S, .int .i64 h, .int .i64 (m : Nat)] := hb.alloc _
  have c1 : (w.alloc (.cells #[.int .i64 0] 3)).cell? ⟨g, 1, none⟩ = some (.slice (some ⟨b, 0, none⟩) S S) := by rw [hb'.cell]; rfl
  have c2 : (w.alloc (.cells #[.int .i64 0] 3)).cell? ⟨g, 2, none⟩ = some (.int .i64 h) := by rw [hb'.cell]; rfl
  have c3 : (w.alloc (.cells #[.int .i64 0] 3)).cell? ⟨g, 3, none⟩ = some (.int .i64 (m : Nat)) := by rw [hb'.cell]; rfl
  have R1 : ∀ c q, Calls Try.prog 43 #[.slice (some ⟨b, h, none⟩) st c, .int .i64 v] ((w.alloc (.cells #[.int .i64 0] 3)).drewN q) fun e w' => e = .returned (.int .i64 (idx P1 v)) ∧ (w.alloc (.cells #[.int .i64 0] 3)).drewN q = w' := fun c q => index_any _ st c B P1 v _ ((r1.alloc hB _).drewN q) (by simp only [maxLen]; omega)
  have R2 : ∀ c q, Calls Try.prog 43 #[.slice (some ⟨b, 0, none⟩) (m - st) c, .int .i64 v] ((w.alloc (.cells #[.int .i64 0] 3)).drewN q) fun e w' => e = .returned (.int .i64 (idx P2 v)) ∧ (w.alloc (.cells #[.int .i64 0] 3)).drewN q = w' := fun c q => index_any _ (m - st) c B P2 v _ ((r2.alloc hB _).drewN q) (by simp only [maxLen]; omega)
  have HR1 := Lib.hid R1
  have HR2 := Lib.hid R2
  have bd1 := idx_bd P1 v
  have bd2 := idx_bd P2 v
  have l1 := r1.len
  have l2 := r2.len
  have w1 : IntKind.i64.wrap ((S : Int) - (h : Int)) = ((st : Nat) : Int) := by rw [IntWalk.i64_in _ (by omega)]; omega
  have w2 : IntKind.i64.wrap ((h : Int) + (st : Int)) = ((h + st : Nat) : Int) := by rw [IntWalk.i64_in _ (by omega)]; omega
  have w3 : IntKind.i64.wrap ((m : Int) - (st : Int)) = ((m - st : Nat) : Int) := by rw [IntWalk.i64_in _ (by omega)]; omega
  have hst' : decide ((st : Int) < (m : Int)) = true := by simp; omega
  have j1 : (0 : Int) ≤ (h : Int) := by omega
  have j2 : (0 : Int) ≤ (h : Int) + (st : Int) := by omega
  have j3 : (h : Int) + (st : Int) ≤ (S : Int) := by omega
  have j8 : ((h : Int) + (st : Int)).toNat = h + st := by omega
  have j9 : h ≤ h + st := by omega
  have j4 : (0 : Int) ≤ ((m - st : Nat) : Int) := by omega
  have j5 : ((m - st : Nat) : Int) ≤ (S : Int) := by omega
  have j6 : ¬ (S = h) := by omega
  have j7 : h + st - h = st := by omega
  generalize idx P1 v = x1 at *
  generalize idx P2 v = x2 at *
  have hLz : ((L.length : Nat) : Int) = (m : Int) := by omega
  have HL := Lib.hid hLz
  clear hg hb hb' r1 r2 R1 R2 hLz hs2
  go_enter_defers Try.func35, Try.ntmps35
  go_wp2_with (go_at_call 21; refine (ring_len base g most _ L _ HG.out).mono ?_; rintro e w' ⟨rfl, rfl⟩; rw [HL.out])
  go_quiet (fail)
  go_wp2_with fail
  go_quiet ((go_at_call 43; exact qSame2 (HR1.out _ _)))
  go_wp2_with fail
  go_quiet ((go_at_call 43; exact qSame2 (HR2.out _ _)))
  go_wp2_with fail
  refine leaves_cons (f := 42) (args := #[.pointer (some ⟨w.heap.size, 0, none⟩)]) (by simp) (by simp [go_sem]) ?_
  refine (find1_idle _ _).mono ?_
  rintro e u' w'' ⟨rfl, rfl, rfl⟩
  have b0 : ∀ q u, Blk (((w.alloc (.cells #[.int .i64 0] 3)).drewN q).setCell ⟨w.heap.size, 0, none⟩ u) w.heap.size 3 #[u] := fun q u => ((Blk.new w 3 #[.int .i64 0]).drewN q).set_ 0 u
  have d0 : ∀ q u, (((w.alloc (.cells #[.int .i64 0] 3)).drewN q).setCell ⟨w.heap.size, 0, none⟩ u).cell? ⟨w.heap.size, 0, none⟩ = some u := fun q u => by rw [(b0 q u).cell]; rfl
  refine ⟨.int .i64 ((st : Int) + x2), by simp [results, Try.results35, go_sem, d0], rfl, ?_⟩
  repeat (first | with_reducible exact Below.refl _ _ | with_reducible assumption | with_reducible refine Below.setCell ?_ (by first | omega | (simp <;> omega)) _ | with_reducible refine below_drewN ?_ _ | with_reducible refine Below.drew ?_ | with_reducible refine Below.alloc ?_ (by first | omega | (simp <;> omega)) _)
set_option maxHeartbeats 4000000 in
theorem find_a2 (base g b S h m st B : Nat) (most : Int) (P1 P2 : List Int) (v : Int) (L : List Int) (w : World) (hg : Rg w base g most (.slice (some ⟨b, 0, none⟩) S S) L) (hL : L.length = m) (hb : Blk w g 59 #[.int .i64 most, .slice (some ⟨b, 0, none⟩) S S, .int .i64 h, .int .i64 (m : Nat)])
    (h0 : 0 < m) (hh : h < S) (hmS : m ≤ S) (hS : S ≤ 65536) (hst : S - h < m) (hs2 : st = S - h) (r1 : Reads w B 1 (some ⟨b, h, none⟩) st (iv P1)) (r2 : Reads w B 1 (some ⟨b, 0, none⟩) (m - st) (iv P2)) (hB : B ≤ w.heap.size) (i1 : idx P1 v < 0) (i2 : idx P2 v < 0) :
    Calls Try.prog 35 #[.pointer (some ⟨g, 0, none⟩), .int .i64 v] w fun e w' => e = .returned (.int .i64 (-1)) ∧ Below w.heap.size w w' := by
  have hmf : ∀ (fn : Fn) (first cap : Array Value) (w : World), (Instr.makeFunc fn first cap).run Try.prog w = .ok (.func fn first cap) w := fun _ _ _ _ => rfl
  have HG : Hid (Rg (w.alloc (.cells #[.int .i64 0] 3)) base g most (.slice (some ⟨b, 0, none⟩) S S) L) := Lib.hid (hg.keep (only_new (S := fun _ => False) w _) (fun h => h) (fun _ _ h => h))
  have hb' : Blk (w.alloc (.cells #[.int .i64 0] 3)) g 59 #[.int .i64 most, .slice (some ⟨b, 0, none⟩) S S, .int .i64 h, .int .i64 (m : Nat)] := hb.alloc _
  have c1 : (w.alloc (.cells #[.int .i64 0] 3)).cell? ⟨g, 1, none⟩ = some (.slice (some ⟨b, 0, none⟩) S S) := by rw [hb'.cell]; rfl
  have c2 : (w.alloc (.cells #[.int .i64 0] 3)).cell? ⟨g, 2, none⟩ = some (.int .i64 h) := by rw [hb'.cell]; rfl
  have c3 : (w.alloc (.cells #[.int .i64 0] 3)).cell? ⟨g, 3, none⟩ = some (.int .i64 (m : Nat)) := by rw [hb'.cell]; rfl
  have R1 : ∀ c q, Calls Try.prog 43 #[.slice (some ⟨b, h, none⟩) st c, .int .i64 v] ((w.alloc (.cells #[.int .i64 0] 3)).drewN q) fun e w' => e = .returned (.int .i64 (idx P1 v)) ∧ (w.alloc (.cells #[.int .i64 0] 3)).drewN q = w' := fun c q => index_any _ st c B P1 v _ ((r1.alloc hB _).drewN q) (by simp only [maxLen]; omega)
  have R2 : ∀ c q, Calls Try.prog 43 #[.slice (some ⟨b, 0, none⟩) (m - st) c, .int .i64 v] ((w.alloc (.cells #[.int .i64 0] 3)).drewN q) fun e w' => e = .returned (.int .i64 (idx P2 v)) ∧ (w.alloc (.cells #[.int .i64 0] 3)).drewN q = w' := fun c q => index_any _ (m - st) c B P2 v _ ((r2.alloc hB _).drewN q) (by simp only [maxLen]; omega)
  have HR1 := Lib.hid R1
  have HR2 := Lib.hid R2
  have bd1 := idx_bd P1 v
  have bd2 := idx_bd P2 v
  have l1 := r1.len
  have l2 := r2.len
  have w1 : IntKind.i64.wrap ((S : Int) - (h : Int)) = ((st : Nat) : Int) := by rw [IntWalk.i64_in _ (by omega)]; omega
  have w2 : IntKind.i64.wrap ((h : Int) + (st : Int)) = ((h + st : Nat) : Int) := by rw [IntWalk.i64_in _ (by omega)]; omega
  have w3 : IntKind.i64.wrap ((m : Int) - (st : Int)) = ((m - st : Nat) : Int) := by rw [IntWalk.i64_in _ (by omega)]; omega
  have hst' : decide ((st : Int) < (m : Int)) = true := by simp; omega
  have j1 : (0 : Int) ≤ (h : Int) := by omega
  have j2 : (0 : Int) ≤ (h : Int) + (st : Int) := by omega
  have j3 : (h : Int) + (st : Int) ≤ (S : Int) := by omega
  have j8 : ((h : Int) + (st : Int)).toNat = h + st := by omega
  have j9 : h ≤ h + st := by omega
  have j4 : (0 : Int) ≤ ((m - st : Nat) : Int) := by omega
  have j5 : ((m - st : Nat) : Int) ≤ (S : Int) := by omega
  have j6 : ¬ (S = h) := by omega
  have j7 : h + st - h = st := by omega
  generalize idx P1 v = x1 at *
  generalize idx P2 v = x2 at *
  have hLz : ((L.length : Nat) : Int) = (m : Int) := by omega
  have HL := Lib.hid hLz
  clear hg hb hb' r1 r2 R1 R2 hLz hs2
  go_enter_defers Try.func35, Try.ntmps35
  go_wp2_with (go_at_call 21; refine (ring_len base g most _ L _ HG.out).mono ?_; rintro e w' ⟨rfl, rfl⟩; rw [HL.out])
  go_quiet (fail)
  go_wp2_with fail
  go_quiet ((go_at_call 43; exact qSame2 (HR1.out _ _)))
  go_wp2_with fail
  go_quiet ((go_at_call 43; exact qSame2 (HR2.out _ _)))
  go_wp2_with fail
  refine leaves_cons (f := 42) (args := #[.pointer (some ⟨w.heap.size, 0, none⟩)]) (by simp) (by simp [go_sem]) ?_
  refine (find1_idle _ _).mono ?_
  rintro e u' w'' ⟨rfl, rfl, rfl⟩
  have b0 : ∀ q u, Blk (((w.alloc (.cells #[.int .i64 0] 3)).drewN q).setCell ⟨w.heap.size, 0, none⟩ u) w.heap.size 3 #[u] := fun q u => ((Blk.new w 3 #[.int .i64 0]).drewN q).set_ 0 u
  have d0 : ∀ q u, (((w.alloc (.cells #[.int .i64 0] 3)).drewN q).setCell ⟨w.heap.size, 0, none⟩ u).cell? ⟨w.heap.size, 0, none⟩ = some u := fun q u => by rw [(b0 q u).cell]; rfl
  refine ⟨.int .i64 (-1), by simp [results, Try.results35, go_sem, d0], rfl, ?_⟩
  repeat (first | with_reducible exact Below.refl _ _ | with_reducible assumption | with_reducible refine Below.setCell ?_ (by first | omega | (simp <;> omega)) _ | with_reducible refine below_drewN ?_ _ | with_reducible refine Below.drew ?_ | with_reducible refine Below.alloc ?_ (by first | omega | (simp <;> omega)) _)
set_option maxHeartbeats 4000000 in
theorem find_b0 (base g b S h st B : Nat) (most : Int) (P1 P2 : List Int) (v : Int) (L : List Int) (w : World) (hg : Rg w base g most (.slice (some ⟨b, 0, none⟩) S S) L) (hL : L.length = st) (hb : Blk w g 59 #[.int .i64 most, .slice (some ⟨b, 0, none⟩) S S, .int .i64 h, .int .i64 (st : Nat)])
    (h0 : 0 < st) (hh : h < S) (hmS : st ≤ S) (hS : S ≤ 65536) (hst : st ≤ S - h) (r1 : Reads w B 1 (some ⟨b, h, none⟩) st (iv P1)) (r2 : Reads w B 1 (some ⟨b, 0, none⟩) 0 (iv P2)) (hB : B ≤ w.heap.size) (i1 : 0 ≤ idx P1 v) :
    Calls Try.prog 35 #[.pointer (some ⟨g, 0, none⟩), .int .i64 v] w fun e w' => e = .returned (.int .i64 (idx P1 v)) ∧ Below w.heap.size w w' := by
  have hmf : ∀ (fn : Fn) (first cap : Array Value) (w : World), (Instr.makeFunc fn first cap).run Try.prog w = .ok (.func fn first cap) w := fun _ _ _ _ => rfl
  have HG : Hid (Rg (w.alloc (.cells #[.int .i64 0] 3)) base g most (.slice (some ⟨b, 0, none⟩) S S) L) := Lib.hid (hg.keep (only_new (S := fun _ => False) w _) (fun h => h) (fun _ _ h => h))
  have hb' : Blk (w.alloc (.cells #[.int .i64 0] 3)) g 59 #[.int .i64 most, .slice (some ⟨b, 0, none⟩) S S, .int .i64 h, .int .i64 (st : Nat)] := hb.alloc _
  have c1 : (w.alloc (.cells #[.int .i64 0] 3)).cell? ⟨g, 1, none⟩ = some (.slice (some ⟨b, 0, none⟩) S S) := by rw [hb'.cell]; rfl
  have c2 : (w.alloc (.cells #[.int .i64 0] 3)).cell? ⟨g, 2, none⟩ = some (.int .i64 h) := by rw [hb'.cell]; rfl
  have c3 : (w.alloc (.cells #[.int .i64 0] 3)).cell? ⟨g, 3, none⟩ = some (.int .i64 (st : Nat)) := by rw [hb'.cell]; rfl
  have R1 : ∀ c q, Calls Try.prog 43 #[.slice (some ⟨b, h, none⟩) st c, .int .i64 v] ((w.alloc (.cells #[.int .i64 0] 3)).drewN q) fun e w' => e = .returned (.int .i64 (idx P1 v)) ∧ (w.alloc (.cells #[.int .i64 0] 3)).drewN q = w' := fun c q => index_any _ st c B P1 v _ ((r1.alloc hB _).drewN q) (by simp only [maxLen]; omega)
  have R2 : ∀ c q, Calls Try.prog 43 #[.slice (some ⟨b, 0, none⟩) 0 c, .int .i64 v] ((w.alloc (.cells #[.int .i64 0] 3)).drewN q) fun e w' => e = .returned (.int .i64 (idx P2 v)) ∧ (w.alloc (.cells #[.int .i64 0] 3)).drewN q = w' := fun c q => index_any _ 0 c B P2 v _ ((r2.alloc hB _).drewN q) (by simp only [maxLen]; omega)
  have HR1 := Lib.hid R1
  have HR2 := Lib.hid R2
  have bd1 := idx_bd P1 v
  have bd2 := idx_bd P2 v
  have l1 := r1.len
  have l2 := r2.len
  have w1 : IntKind.i64.wrap ((S : Int) - (h : Int)) = ((S - h : Nat) : Int) := by rw [IntWalk.i64_in _ (by omega)]; omega
  have w2 : IntKind.i64.wrap ((h : Int) + (st : Int)) = ((h + st : Nat) : Int) := by rw [IntWalk.i64_in _ (by omega)]; omega
  have hst' : decide (((S - h : Nat) : Int) < (st : Int)) = false := by simp; omega
  have j1 : (0 : Int) ≤ (h : Int) := by omega
  have j2 : (0 : Int) ≤ (h : Int) + (st : Int) := by omega
  have j3 : (h : Int) + (st : Int) ≤ (S : Int) := by omega
  have j8 : ((h : Int) + (st : Int)).toNat = h + st := by omega
  have j9 : h ≤ h + st := by omega
  have j6 : ¬ (S = h) := by omega
  have j7 : h + st - h = st := by omega
  generalize idx P1 v = x1 at *
  generalize idx P2 v = x2 at *
  have hLz : ((L.length : Nat) : Int) = (st : Int) := by omega
  have HL := Lib.hid hLz
  clear hg hb hb' r1 r2 R1 R2 hLz
  go_enter_defers Try.func35, Try.ntmps35
  go_wp2_with (go_at_call 21; refine (ring_len base g most _ L _ HG.out).mono ?_; rintro e w' ⟨rfl, rfl⟩; rw [HL.out])
  go_quiet (fail)
  go_wp2_with fail
  go_quiet ((go_at_call 43; exact qSame2 (HR1.out _ _)))
  go_wp2_with fail
  refine leaves_cons (f := 42) (args := #[.pointer (some ⟨w.heap.size, 0, none⟩)]) (by simp) (by simp [go_sem]) ?_
  refine (find1_idle _ _).mono ?_
  rintro e u' w'' ⟨rfl, rfl, rfl⟩
  have b0 : ∀ q u, Blk (((w.alloc (.cells #[.int .i64 0] 3)).drewN q).setCell ⟨w.heap.size, 0, none⟩ u) w.heap.size 3 #[u] := fun q u => ((Blk.new w 3 #[.int .i64 0]).drewN q).set_ 0 u
  have d0 : ∀ q u, (((w.alloc (.cells #[.int .i64 0] 3)).drewN q).setCell ⟨w.heap.size, 0, none⟩ u).cell? ⟨w.heap.size, 0, none⟩ = some u := fun q u => by rw [(b0 q u).cell]; rfl
  refine ⟨.int .i64 (x1), by simp [results, Try.results35, go_sem, d0], rfl, ?_⟩
  repeat (first | with_reducible exact Below.refl _ _ | with_reducible assumption | with_reducible refine Below.setCell ?_ (by first | omega | (simp <;> omega)) _ | with_reducible refine below_drewN ?_ _ | with_reducible refine Below.drew ?_ | with_reducible refine Below.alloc ?_ (by first | omega | (simp <;> omega)) _)
set_option maxHeartbeats 4000000 in
theorem find_b2 (base g b S h st B : Nat) (most : Int) (P1 P2 : List Int) (v : Int) (L : List Int) (w : World) (hg : Rg w base g most (.slice (some ⟨b, 0, none⟩) S S) L) (hL : L.length = st) (hb : Blk w g 59 #[.int .i64 most, .slice (some ⟨b, 0, none⟩) S S, .int .i64 h, .int .i64 (st : Nat)])
    (h0 : 0 < st) (hh : h < S) (hmS : st ≤ S) (hS : S ≤ 65536) (hst : st ≤ S - h) (r1 : Reads w B 1 (some ⟨b, h, none⟩) st (iv P1)) (r2 : Reads w B 1 (some ⟨b, 0, none⟩) 0 (iv P2)) (hB : B ≤ w.heap.size) (i1 : idx P1 v < 0) (i2 : idx P2 v < 0) :
    Calls Try.prog 35 #[.pointer (some ⟨g, 0, none⟩), .int .i64 v] w fun e w' => e = .returned (.int .i64 (-1)) ∧ Below w.heap.size w w' := by
  have hmf : ∀ (fn : Fn) (first cap : Array Value) (w : World), (Instr.makeFunc fn first cap).run Try.prog w = .ok (.func fn first cap) w := fun _ _ _ _ => rfl
  have HG : Hid (Rg (w.alloc (.cells #[.int .i64 0] 3)) base g most (.slice (some ⟨b, 0, none⟩) S S) L) := Lib.hid (hg.keep (only_new (S := fun _ => False) w _) (fun h => h) (fun _ _ h => h))
  have hb' : Blk (w.alloc (.cells #[.int .i64 0] 3)) g 59 #[.int .i64 most, .slice (some ⟨b, 0, none⟩) S S, .int .i64 h, .int .i64 (st : Nat)] := hb.alloc _
  have c1 : (w.alloc (.cells #[.int .i64 0] 3)).cell? ⟨g, 1, none⟩ = some (.slice (some ⟨b, 0, none⟩) S S) := by rw [hb'.cell]; rfl
  have c2 : (w.alloc (.cells #[.int .i64 0] 3)).cell? ⟨g, 2, none⟩ = some (.int .i64 h) := by rw [hb'.cell]; rfl
  have c3 : (w.alloc (.cells #[.int .i64 0] 3)).cell? ⟨g, 3, none⟩ = some (.int .i64 (st : Nat)) := by rw [hb'.cell]; rfl
  have R1 : ∀ c q, Calls Try.prog 43 #[.slice (some ⟨b, h, none⟩) st c, .int .i64 v] ((w.alloc (.cells #[.int .i64 0] 3)).drewN q) fun e w' => e = .returned (.int .i64 (idx P1 v)) ∧ (w.alloc (.cells #[.int .i64 0] 3)).drewN q = w' := fun c q => index_any _ st c B P1 v _ ((r1.alloc hB _).drewN q) (by simp only [maxLen]; omega)
  have R2 : ∀ c q, Calls Try.prog 43 #[.slice (some ⟨b, 0, none⟩) 0 c, .int .i64 v] ((w.alloc (.cells #[.int .i64 0] 3)).drewN q) fun e w' => e = .returned (.int .i64 (idx P2 v)) ∧ (w.alloc (.cells #[.int .i64 0] 3)).drewN q = w' := fun c q => index_any _ 0 c B P2 v _ ((r2.alloc hB _).drewN q) (by simp only [maxLen]; omega)
  have HR1 := Lib.hid R1
  have HR2 := Lib.hid R2
  have bd1 := idx_bd P1 v
  have bd2 := idx_bd P2 v
  have l1 := r1.len
  have l2 := r2.len
  have w1 : IntKind.i64.wrap ((S : Int) - (h : Int)) = ((S - h : Nat) : Int) := by rw [IntWalk.i64_in _ (by omega)]; omega
  have w2 : IntKind.i64.wrap ((h : Int) + (st : Int)) = ((h + st : Nat) : Int) := by rw [IntWalk.i64_in _ (by omega)]; omega
  have hst' : decide (((S - h : Nat) : Int) < (st : Int)) = false := by simp; omega
  have j1 : (0 : Int) ≤ (h : Int) := by omega
  have j2 : (0 : Int) ≤ (h : Int) + (st : Int) := by omega
  have j3 : (h : Int) + (st : Int) ≤ (S : Int) := by omega
  have j8 : ((h : Int) + (st : Int)).toNat = h + st := by omega
  have j9 : h ≤ h + st := by omega
  have j6 : ¬ (S = h) := by omega
  have j7 : h + st - h = st := by omega
  generalize idx P1 v = x1 at *
  generalize idx P2 v = x2 at *
  have hLz : ((L.length : Nat) : Int) = (st : Int) := by omega
  have HL := Lib.hid hLz
  clear hg hb hb' r1 r2 R1 R2 hLz
  go_enter_defers Try.func35, Try.ntmps35
  go_wp2_with (go_at_call 21; refine (ring_len base g most _ L _ HG.out).mono ?_; rintro e w' ⟨rfl, rfl⟩; rw [HL.out])
  go_quiet (fail)
  go_wp2_with fail
  go_quiet ((go_at_call 43; exact qSame2 (HR1.out _ _)))
  go_wp2_with fail
  go_quiet ((go_at_call 43; exact qSame2 (HR2.out _ _)))
  go_wp2_with fail
  refine leaves_cons (f := 42) (args := #[.pointer (some ⟨w.heap.size, 0, none⟩)]) (by simp) (by simp [go_sem]) ?_
  refine (find1_idle _ _).mono ?_
  rintro e u' w'' ⟨rfl, rfl, rfl⟩
  have b0 : ∀ q u, Blk (((w.alloc (.cells #[.int .i64 0] 3)).drewN q).setCell ⟨w.heap.size, 0, none⟩ u) w.heap.size 3 #[u] := fun q u => ((Blk.new w 3 #[.int .i64 0]).drewN q).set_ 0 u
  have d0 : ∀ q u, (((w.alloc (.cells #[.int .i64 0] 3)).drewN q).setCell ⟨w.heap.size, 0, none⟩ u).cell? ⟨w.heap.size, 0, none⟩ = some u := fun q u => by rw [(b0 q u).cell]; rfl
  refine ⟨.int .i64 (-1), by simp [results, Try.results35, go_sem, d0], rfl, ?_⟩
  repeat (first | with_reducible exact Below.refl _ _ | with_reducible assumption | with_reducible refine Below.setCell ?_ (by first | omega | (simp <;> omega)) _ | with_reducible refine below_drewN ?_ _ | with_reducible refine Below.drew ?_ | with_reducible refine Below.alloc ?_ (by first | omega | (simp <;> omega)) _)
theorem win_list (sl L : List Int) (h S m st : Nat) (hsl : sl.length = S) (hL : L.length = m) (hh : h < S) (hmS : m ≤ S) (hst : S - h < m ∧ st = S - h ∨ m ≤ S - h ∧ st = m) (hw : ∀ i, i < m → sl.getD ((h + i) % S) 0 = L.getD i 0) : L = (sl.drop h).take st ++ sl.take (m - st) := by
  have l1 : ((sl.drop h).take st).length = st := by rw [List.length_take, List.length_drop]; omega
  have l2 : (sl.take (m - st)).length = m - st := by rw [List.length_take]; omega
  refine list_ext_getD (by rw [List.length_append, l1, l2]; omega) (fun j hj => ?_)
  rw [← hw j (by omega)]
  rw [List.getD_eq_getElem?_getD, List.getD_eq_getElem?_getD]
  by_cases hlt : j < st
  · rw [List.getElem?_append_left (by omega), List.getElem?_take_of_lt hlt, List.getElem?_drop, Nat.mod_eq_of_lt (by omega)]
  · have e : (h + j) % S = j - st := by
      have h1 : h + j = S + (j - st) := by omega
      rw [h1, Nat.add_mod_left, Nat.mod_eq_of_lt (by omega)]
    rw [List.getElem?_append_right (by omega), l1, List.getElem?_take_of_lt (by omega), e]
theorem ring_find (base g : Nat) (most : Int) (x : Value) (L : List Int) (v : Int) (w : World) (hg : Rg w base g most x L) :
    Calls Try.prog 35 #[.pointer (some ⟨g, 0, none⟩), .int .i64 v] w fun e w' => e = .returned (.int .i64 (idx L v)) ∧ Below w.heap.size w w' := by
  by_cases hL0 : L = []
  · subst hL0
    exact find_empty base g most x v w hg
  have hg0 := hg
  obtain ⟨h1, h2, h3, hg⟩ := hg
  rcases hg with ⟨_, h4, _⟩ | ⟨b, S, h, sl, rfl, hb, ho, hh, hl, hS, hw⟩
  · exact absurd h4 hL0
  have hm : 0 < L.length := by cases L with
    | nil => exact absurd rfl hL0
    | cons => simp
  have hsl : sl.length = S := by have := ho.1; simpa [iv] using this
  have hr : Reads w w.heap.size 1 (some ⟨b, 0, none⟩) S (iv sl) := Reads.of_own ho
  have key : ∀ st, (S - h < L.length ∧ st = S - h ∨ L.length ≤ S - h ∧ st = L.length) →
      Reads w w.heap.size 1 (some ⟨b, h, none⟩) st (iv ((sl.drop h).take st)) ∧ Reads w w.heap.size 1 (some ⟨b, 0, none⟩) (L.length - st) (iv (sl.take (L.length - st))) ∧ L = (sl.drop h).take st ++ sl.take (L.length - st) ∧ ((sl.drop h).take st).length = st := by
    intro st hst
    have c1 := hr.cut (k := h) (cap := S) (by omega) (Nat.le_refl _)
    rw [if_neg (by omega)] at c1
    have e1 : (iv sl).drop (h * 1) = iv (sl.drop h) := by simp [iv, List.map_drop]
    rw [e1] at c1
    have e2 : (some (⟨b, 0, none⟩ : Addr)).map (·.add (h * 1)) = some ⟨b, h, none⟩ := by
      simp only [Option.map_some, Option.some.injEq, Nat.mul_one]
      unfold Addr.add
      split
      · rename_i e; subst e; rfl
      · simp
    rw [e2] at c1
    have c2 := Reads.take (zs := sl.drop h) c1 st (by omega)
    have c3 := Reads.take (zs := sl) hr (L.length - st) (by omega)
    rw [Nat.mul_one] at c2 c3
    exact ⟨c2, c3, win_list sl L h S L.length st hsl rfl hh hl hst hw, by rw [List.length_take, List.length_drop]; omega⟩
  have hS6 : S ≤ 65536 := by omega
  by_cases hc : S - h < L.length
  · obtain ⟨r1, r2, e, l1⟩ := key (S - h) (.inl ⟨hc, rfl⟩)
    have ha := idx_append ((sl.drop h).take (S - h)) (sl.take (L.length - (S - h))) v
    rw [← e, l1] at ha
    by_cases i1 : 0 ≤ idx ((sl.drop h).take (S - h)) v
    · rw [if_pos i1] at ha
      rw [ha]
      exact find_a0 base g b S h L.length (S - h) _ most _ _ v L w hg0 rfl hb hm hh hl hS6 hc rfl r1 r2 (Nat.le_refl _) i1
    · rw [if_neg i1] at ha
      by_cases i2 : 0 ≤ idx (sl.take (L.length - (S - h))) v
      · rw [if_pos i2] at ha
        rw [ha]
        exact find_a1 base g b S h L.length (S - h) _ most _ _ v L w hg0 rfl hb hm hh hl hS6 hc rfl r1 r2 (Nat.le_refl _) (by omega) i2
      · rw [if_neg i2] at ha
        rw [ha]
        exact find_a2 base g b S h L.length (S - h) _ most _ _ v L w hg0 rfl hb hm hh hl hS6 hc rfl r1 r2 (Nat.le_refl _) (by omega) (by omega)
  · obtain ⟨r1, r2, e, l1⟩ := key L.length (.inr ⟨by omega, rfl⟩)
    rw [Nat.sub_self] at r2 e
    have ha := idx_append ((sl.drop h).take L.length) (sl.take 0) v
    rw [← e, l1] at ha
    by_cases i1 : 0 ≤ idx ((sl.drop h).take L.length) v
    · rw [if_pos i1] at ha
      rw [ha]
      exact find_b0 base g b S h L.length _ most _ _ v L w hg0 rfl hb hm hh hl hS6 (by omega) r1 r2 (Nat.le_refl _) i1
    · rw [if_neg i1] at ha
      by_cases i2 : 0 ≤ idx (sl.take 0) v
      · exfalso
        have := idx_bd (sl.take 0) v
        simp at this
        simp at i2
        omega
      · rw [if_neg i2] at ha
        rw [ha]
        exact find_b2 base g b S h L.length _ most _ _ v L w hg0 rfl hb hm hh hl hS6 (by omega) r1 r2 (Nat.le_refl _) (by omega) (by omega)
end Go.Proofs.Ytmomafhpbbmiaaa
