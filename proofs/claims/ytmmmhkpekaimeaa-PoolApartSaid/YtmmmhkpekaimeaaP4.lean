/- A pool of ints (layer 6): Give, Get, the nil answers. -/
import Derived.Test.YtmmmhkpekaimeaaP3
set_option linter.unusedVariables false
namespace Go.Proofs.Ytmmmhkpekaimeaa
open Go.ChangeShapes Go.WideShapes Go.ChangeAt Go.RowKit
set_option maxHeartbeats 2000000 in
theorem pool_take_nil (v : Int) (w : World) : Calls Try.prog 36 #[.pointer none, .int .i64 v] w fun e w' => e = .returned (.tuple #[.int .i64 0, .int .i64 1]) ∧ Below w.heap.size w w' := by
  have hmf : ∀ (fn : Fn) (first cap : Array Value) (w : World), (Instr.makeFunc fn first cap).run Try.prog w = .ok (.func fn first cap) w := fun _ _ _ _ => rfl
  go_enter Try.func36, Try.ntmps36
  go_wp2_with (first | (go_at_call 64; ((with_reducible refine (pool_at_nil _ _ _).mono ?_); rintro e wx ⟨rfl, rfl⟩)) | fail)
  go_ret2
  exact ⟨rfl, (by repeat (first | with_reducible exact Below.refl _ _ | with_reducible assumption | with_reducible refine Below.setCell ?_ (by first | omega | (simp <;> omega)) _ | with_reducible refine below_drewN ?_ _ | with_reducible refine Below.drew ?_ | with_reducible refine Below.alloc ?_ (by first | omega | (simp <;> omega)) _))⟩
set_option maxHeartbeats 2000000 in
theorem pool_get_nil (i : Int) (w : World) : Calls Try.prog 33 #[.pointer none, .int .i64 i] w fun e w' => e = .returned (.tuple #[.int .i64 0, .bool false]) ∧ Below w.heap.size w w' := by
  have hmf : ∀ (fn : Fn) (first cap : Array Value) (w : World), (Instr.makeFunc fn first cap).run Try.prog w = .ok (.func fn first cap) w := fun _ _ _ _ => rfl
  go_enter Try.func33, Try.ntmps33
  go_wp2_with (first | (go_at_call 64; ((with_reducible refine (pool_at_nil _ _ _).mono ?_); rintro e wx ⟨rfl, rfl⟩)) | fail)
  go_ret2
  exact ⟨rfl, (by repeat (first | with_reducible exact Below.refl _ _ | with_reducible assumption | with_reducible refine Below.setCell ?_ (by first | omega | (simp <;> omega)) _ | with_reducible refine below_drewN ?_ _ | with_reducible refine Below.drew ?_ | with_reducible refine Below.alloc ?_ (by first | omega | (simp <;> omega)) _))⟩
set_option maxHeartbeats 2000000 in
theorem pool_give_nil (i : Int) (w : World) : Calls Try.prog 35 #[.pointer none, .int .i64 i] w fun e w' => e = .returned (.int .i64 1) ∧ Below w.heap.size w w' := by
  have hmf : ∀ (fn : Fn) (first cap : Array Value) (w : World), (Instr.makeFunc fn first cap).run Try.prog w = .ok (.func fn first cap) w := fun _ _ _ _ => rfl
  go_enter Try.func35, Try.ntmps35
  go_wp2_with (first | (go_at_call 64; ((with_reducible refine (pool_at_nil _ _ _).mono ?_); rintro e wx ⟨rfl, rfl⟩)) | fail)
  go_ret
  exact ⟨rfl, (by repeat (first | with_reducible exact Below.refl _ _ | with_reducible assumption | with_reducible refine Below.setCell ?_ (by first | omega | (simp <;> omega)) _ | with_reducible refine below_drewN ?_ _ | with_reducible refine Below.drew ?_ | with_reducible refine Below.alloc ?_ (by first | omega | (simp <;> omega)) _))⟩
set_option maxHeartbeats 2000000 in
theorem pool_set_nil (i v : Int) (w : World) : Calls Try.prog 38 #[.pointer none, .int .i64 i, .int .i64 v] w fun e w' => e = .returned (.int .i64 1) ∧ Below w.heap.size w w' := by
  have hmf : ∀ (fn : Fn) (first cap : Array Value) (w : World), (Instr.makeFunc fn first cap).run Try.prog w = .ok (.func fn first cap) w := fun _ _ _ _ => rfl
  go_enter Try.func38, Try.ntmps38
  go_wp2_with (first | (go_at_call 64; ((with_reducible refine (pool_at_nil _ _ _).mono ?_); rintro e wx ⟨rfl, rfl⟩)) | fail)
  go_ret
  exact ⟨rfl, (by repeat (first | with_reducible exact Below.refl _ _ | with_reducible assumption | with_reducible refine Below.setCell ?_ (by first | omega | (simp <;> omega)) _ | with_reducible refine below_drewN ?_ _ | with_reducible refine Below.drew ?_ | with_reducible refine Below.alloc ?_ (by first | omega | (simp <;> omega)) _))⟩
set_option maxHeartbeats 2000000 in
theorem get1 (b k bv : Nat) (a u : Int) (w : World) (hx : w.cell? ⟨b, k, none⟩ = some (.int .i64 a)) (hv : Blk w bv 3 #[.int .i64 u]) :
    Calls Try.prog 65 #[.pointer (some ⟨b, k, none⟩), .pointer (some ⟨bv, 0, none⟩)] w fun e w' => e = .returned (.tuple #[]) ∧ w' = w.setCell ⟨bv, 0, none⟩ (.int .i64 a) := by
  have e0 : w.cell? ⟨bv, 0, none⟩ = some (.int .i64 u) := by rw [hv.cell]; rfl
  have e1 : w.frozen? ⟨bv, 0, none⟩ = false := hv.frozen 0
  clear hv
  go_enter Try.func65, Try.ntmps65
  go_wp2_with fail
  go_end0
  exact ⟨rfl, rfl⟩
set_option maxHeartbeats 2000000 in
theorem pool_get (g k n c b : Nat) (most a : Int) (y : Value) (w : World) (hk : k < n) (hn : n ≤ 1048576) (hb : Blk w g 103 #[.int .i64 most, .slice (some ⟨b, 0, none⟩) n c, y]) (hx : w.cell? ⟨b, k * 2, none⟩ = some (.int .i64 a)) (ht : w.cell? ⟨b, k * 2 + 1, none⟩ = some (.bool true)) :
    Calls Try.prog 33 #[.pointer (some ⟨g, 0, none⟩), .int .i64 ((k : Int) + 1)] w fun e w' => e = .returned (.tuple #[.int .i64 a, .bool true]) ∧ Below w.heap.size w w' := by
  have hmf : ∀ (fn : Fn) (first cap : Array Value) (w : World), (Instr.makeFunc fn first cap).run Try.prog w = .ok (.func fn first cap) w := fun _ _ _ _ => rfl
  have hW : Below w.heap.size w (w.alloc (.cells #[.int .i64 0] 3)) := (Below.refl _ _).alloc (Nat.le_refl _) _
  have hT := at_yes g k n c b most y 65 #[.pointer (some ⟨w.heap.size, 0, none⟩)] (fun args W => by kernel_rfl) (fun w' => w' = (w.alloc (.cells #[.int .i64 0] 3)).setCell ⟨w.heap.size, 0, none⟩ (.int .i64 a)) (w.alloc (.cells #[.int .i64 0] 3)) hk hn (hb.alloc _) (below_cell hW ht) (get1 b (k * 2) w.heap.size a 0 _ (below_cell hW hx) (Blk.new w 3 _))
  have HT := Lib.hid hT
  clear hT hb hx ht hW
  go_enter Try.func33, Try.ntmps33
  go_wp2_with fail
  refine (HT.out).mono ?_
  rintro e w1 ⟨rfl, rfl⟩
  have e0 : ((w.alloc (.cells #[.int .i64 0] 3)).setCell ⟨w.heap.size, 0, none⟩ (.int .i64 a)).cell? ⟨w.heap.size, 0, none⟩ = some (.int .i64 a) := by rw [((Blk.new w 3 #[.int .i64 0]).set_ 0 _).cell]; rfl
  go_wp2_with fail
  go_ret2
  exact ⟨rfl, (Below.refl _ _).alloc (Nat.le_refl _) _⟩
set_option maxRecDepth 100000 in
set_option maxHeartbeats 4000000 in
theorem pool_give (base g k n m b c : Nat) (most : Int) (X : List (Int × Bool)) (y : Value) (Y : List Int) (w : World) (h : Pl w base g most (.slice (some ⟨b, 0, none⟩) n c) n X y m Y) (hk : k < n) (hn : n ≤ 1048576) (hm : m ≤ 1048576) (hbase : base ≤ w.heap.size)
    (ht : w.cell? ⟨b, k * 2 + 1, none⟩ = some (.bool true)) :
    Calls Try.prog 35 #[.pointer (some ⟨g, 0, none⟩), .int .i64 ((k : Int) + 1)] w fun e w' => e = .returned (.int .i64 0) ∧ (∃ y', Pl w' base g most (.slice (some ⟨b, 0, none⟩) n c) n (X.set k (0, false)) y' (m + 1) (Y ++ [(k : Int) + 1])) ∧ Only (fun q => q = g ∨ q = b ∨ some q = y.ownBlock) w w' := by
  have hmf : ∀ (fn : Fn) (first cap : Array Value) (w : World), (Instr.makeFunc fn first cap).run Try.prog w = .ok (.func fn first cap) w := fun _ _ _ _ => rfl
  have hW : Only (fun _ => False) w ((w.alloc (.cells #[.pointer (some ⟨g, 0, none⟩)] 51)).alloc (.cells #[.int .i64 ((k : Int) + 1)] 3)) := ((Only.refl _ w).alloc _).alloc _
  have hz : ((w.alloc (.cells #[.pointer (some ⟨g, 0, none⟩)] 51)).alloc (.cells #[.int .i64 ((k : Int) + 1)] 3)).heap.size = w.heap.size + 2 := by simp
  have p0 : Blk ((w.alloc (.cells #[.pointer (some ⟨g, 0, none⟩)] 51)).alloc (.cells #[.int .i64 ((k : Int) + 1)] 3)) w.heap.size 51 #[.pointer (some ⟨g, 0, none⟩)] := (Blk.new w 51 _).alloc _
  have p1 : Blk ((w.alloc (.cells #[.pointer (some ⟨g, 0, none⟩)] 51)).alloc (.cells #[.int .i64 ((k : Int) + 1)] 3)) (w.heap.size + 1) 3 #[.int .i64 ((k : Int) + 1)] := by
    have h := Blk.new (w.alloc (.cells #[.pointer (some ⟨g, 0, none⟩)] 51)) 3 #[.int .i64 ((k : Int) + 1)]
    have hs : (w.alloc (.cells #[.pointer (some ⟨g, 0, none⟩)] 51)).heap.size = w.heap.size + 1 := by simp
    rw [hs] at h
    exact h
  have hP := h.keep hW (fun h => h) (fun _ _ h => h) (fun _ _ h => h)
  have hB : Below w.heap.size w ((w.alloc (.cells #[.pointer (some ⟨g, 0, none⟩)] 51)).alloc (.cells #[.int .i64 ((k : Int) + 1)] 3)) := hW.below (Nat.le_refl _) (fun _ _ h => h)
  have hT := at_yes g k n c b most y 66 #[.pointer (some ⟨w.heap.size, 0, none⟩), .pointer (some ⟨w.heap.size + 1, 0, none⟩)] (fun args W => by kernel_rfl) (fun w' => (∃ y', Pl w' base g most (.slice (some ⟨b, 0, none⟩) n c) n (X.set k (0, false)) y' (m + 1) (Y ++ [(k : Int) + 1])) ∧ Only (fun q => q = g ∨ q = b ∨ some q = y.ownBlock) ((w.alloc (.cells #[.pointer (some ⟨g, 0, none⟩)] 51)).alloc (.cells #[.int .i64 ((k : Int) + 1)] 3)) w') ((w.alloc (.cells #[.pointer (some ⟨g, 0, none⟩)] 51)).alloc (.cells #[.int .i64 ((k : Int) + 1)] 3)) hk hn hP.1 (below_cell hB ht)
    ((give1_of base g k n m b w.heap.size (w.heap.size + 1) c most ((k : Int) + 1) X y Y ((w.alloc (.cells #[.pointer (some ⟨g, 0, none⟩)] 51)).alloc (.cells #[.int .i64 ((k : Int) + 1)] 3)) hP hk hm (by omega) p0 p1 (fun h' => by have := (h.2.2.1.lt _ h').2; omega)).mono fun e w1 h1 => by
      obtain ⟨h1, y', h2, h3, h4⟩ := h1
      exact ⟨h1, ⟨y', h2⟩, h4⟩)
  have HT := Lib.hid hT
  have HW := Lib.hid hW
  clear hT p0 p1 hP hB hW h ht hz
  go_enter Try.func35, Try.ntmps35
  go_wp2_with fail
  refine (HT.out).mono ?_
  rintro e w1 ⟨rfl, hy, ho⟩
  have HY := Lib.hid hy
  have HO := Lib.hid ho
  clear hy ho
  go_wp2_with fail
  go_ret
  exact ⟨rfl, HY.out, (HW.out.mono (fun _ _ h => h.elim)).trans HO.out (fun i _ h => h)⟩
end Go.Proofs.Ytmmmhkpekaimeaa
