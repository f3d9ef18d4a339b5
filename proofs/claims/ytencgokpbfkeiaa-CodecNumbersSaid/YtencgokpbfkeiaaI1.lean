/- A session (layer 32): its phases; Start. -/
import Derived.Test.YtencgokpbfkeiaaH3
import Derived.Test.YtencgokpbfkeiaaTr
set_option linter.unusedVariables false
namespace Go.Proofs.Ytencgokpbfkeiaa
open Go.ChangeShapes Go.WideShapes Go.ChangeAt Go.RowKit
/-- a session at block s: its phase, what it is about, how often it failed, how often it may -/
def Se (w : World) (s : Nat) (ph : Int) (r : Rq) (tr bu : Int) : Prop := Blk w s 115 #[.int .i64 ph, .int .i64 r.k, .int .i64 r.ck, .int .i64 r.pi, .int .i64 r.px, .int .i64 r.py, .int .i64 r.si, .int .i64 r.sl, .int .i64 r.sh, .int .i64 r.q.qk, .int .i64 r.q.b1, .int .i64 r.q.b2, .int .i64 r.q.b3, .int .i64 r.q.b4, .int .i64 r.q.w1, .int .i64 r.q.w2, .int .i64 r.q.w3, .int .i64 r.q.x, .int .i64 r.q.h, .int .i64 tr, .int .i64 bu]
theorem good_r (r : Rq) (w : World) : Calls Try.prog 30 #[r.v] w fun e w' => e = .returned (.bool r.good) ∧ Below w.heap.size w w' :=
  good_any r.k r.ck r.pi r.px r.py r.si r.sl r.sh r.q.qk r.q.b1 r.q.b2 r.q.b3 r.q.b4 r.q.w1 r.q.w2 r.q.w3 r.q.x r.q.h w
theorem reads_of_blk {w : World} {b : Nat} {t : TypeId} {l : List Int} {cs : Array Value} (hb : Blk w b t cs) (h : cs = (iv l).toArray) : Reads w w.heap.size 1 (some ⟨b, 0, none⟩) l.length (iv l) := by
  subst h
  refine ⟨by simp [iv], fun _ => ⟨_, rfl, hb.lt, fun j u hu => ?_⟩⟩
  have e : (⟨b, 0, none⟩ : Addr).add j = ⟨b, j, none⟩ := by unfold Addr.add; split <;> simp_all
  rw [e, hb.cell]
  simpa using hu
set_option maxHeartbeats 1000000 in
theorem contains_any (A : Option Addr) (n c B : Nat) (zs : List Int) (v : Int) (w : World) (hr : Reads w B 1 A n (iv zs)) (hn : n ≤ maxLen) :
    Calls Try.prog 92 #[.slice A n c, .int .i64 v] w fun e w' => e = .returned (.bool (decide (0 ≤ idx zs v))) ∧ w = w' := by
  have H := Lib.hid (index_any A n c B zs v w hr hn)
  generalize idx zs v = i at *
  clear hr
  go_enter Try.func92, Try.ntmps92
  go_wp2_with fail
  refine (H.out).mono ?_
  rintro e w' ⟨rfl, rfl⟩
  go_wp2_with fail
  go_ret
  exact ⟨rfl, rfl⟩
set_option maxHeartbeats 1000000 in
theorem in_any (s : Nat) (ph : Int) (r : Rq) (tr bu : Int) (A : Option Addr) (n c B : Nat) (zs : List Int) (b : Bool) (w : World) (hs : Se w s ph r tr bu) (hr : Reads w B 1 A n (iv zs)) (hn : n ≤ maxLen) (hb : decide (0 ≤ idx zs ph) = b) :
    Calls Try.prog 77 #[.pointer (some ⟨s, 0, none⟩), .slice A n c] w fun e w' => e = .returned (.bool b) ∧ w = w' := by
  have c0 : w.cell? ⟨s, 0, none⟩ = some (.int .i64 ph) := by rw [Blk.cell hs]; rfl
  have C := contains_any A n c B zs ph w hr hn
  rw [hb] at C
  have HC := Lib.hid C
  clear hs hr C hb
  go_enter Try.func77, Try.ntmps77
  go_wp2_with fail
  refine (HC.out).mono ?_
  rintro e w' ⟨rfl, rfl⟩
  go_wp2_with fail
  go_ret
  exact ⟨rfl, rfl⟩
set_option maxHeartbeats 2000000 in
theorem s_new (bu : Int) (h : 0 ≤ bu ∧ bu ≤ 1000) (w : World) :
    Calls Try.prog 41 #[.int .i64 bu] w fun e w' => e = .returned (.tuple #[.pointer (some ⟨w.heap.size, 0, none⟩), .int .i64 0]) ∧ Se w' w.heap.size 0 Rq.zero 0 bu ∧ Below w.heap.size w w' := by
  obtain ⟨h1, h2⟩ := h
  go_enter Try.func41, Try.ntmps41
  go_wp2_with fail
  go_ret2
  exact ⟨rfl, Blk.new w 115 _, (Below.refl _ _).alloc (Nat.le_refl _) _⟩
set_option maxHeartbeats 2000000 in
theorem s_new_no (bu : Int) (h : bu < 0 ∨ 1000 < bu) (w : World) :
    Calls Try.prog 41 #[.int .i64 bu] w fun e w' => e = .returned (.tuple #[.pointer none, .int .i64 1]) ∧ w = w' := by
  rcases h with h | h
  · go_enter Try.func41, Try.ntmps41
    go_wp2_with fail
    go_ret2
    exact ⟨rfl, rfl⟩
  · have h' : ¬ bu < 0 := by omega
    go_enter Try.func41, Try.ntmps41
    go_wp2_with fail
    go_ret2
    exact ⟨rfl, rfl⟩
set_option maxHeartbeats 2000000 in
theorem s_phase (s : Nat) (ph : Int) (r : Rq) (tr bu : Int) (w : World) (hs : Se w s ph r tr bu) : Calls Try.prog 44 #[.pointer (some ⟨s, 0, none⟩)] w fun e w' => e = .returned (.int .i64 ph) ∧ w = w' := by
  have c0 : w.cell? ⟨s, 0, none⟩ = some (.int .i64 ph) := by rw [Blk.cell hs]; rfl
  clear hs
  go_enter Try.func44, Try.ntmps44
  go_wp2_with fail
  go_ret
  exact ⟨rfl, rfl⟩
set_option maxHeartbeats 2000000 in
theorem s_tries (s : Nat) (ph : Int) (r : Rq) (tr bu : Int) (w : World) (hs : Se w s ph r tr bu) : Calls Try.prog 45 #[.pointer (some ⟨s, 0, none⟩)] w fun e w' => e = .returned (.int .i64 tr) ∧ w = w' := by
  have c0 : w.cell? ⟨s, 19, none⟩ = some (.int .i64 tr) := by rw [Blk.cell hs]; rfl
  clear hs
  go_enter Try.func45, Try.ntmps45
  go_wp2_with fail
  go_ret
  exact ⟨rfl, rfl⟩
set_option maxHeartbeats 2000000 in
theorem s_budget (s : Nat) (ph : Int) (r : Rq) (tr bu : Int) (w : World) (hs : Se w s ph r tr bu) : Calls Try.prog 46 #[.pointer (some ⟨s, 0, none⟩)] w fun e w' => e = .returned (.int .i64 bu) ∧ w = w' := by
  have c0 : w.cell? ⟨s, 20, none⟩ = some (.int .i64 bu) := by rw [Blk.cell hs]; rfl
  clear hs
  go_enter Try.func46, Try.ntmps46
  go_wp2_with fail
  go_ret
  exact ⟨rfl, rfl⟩
theorem Se.blk_ {w w' : World} {s : Nat} {ph : Int} {r : Rq} {tr bu : Int} (h : Se w s ph r tr bu) (ho : Only (fun _ => False) w w') : Se w' s ph r tr bu := ho.blk h (fun h => h)
theorem idx_one (a b : Int) : decide (0 ≤ idx [a] b) = decide (a = b) := by
  simp only [idx]
  split <;> simp_all
theorem idx_two (a c b : Int) : decide (0 ≤ idx [a, c] b) = decide (a = b ∨ c = b) := by
  simp only [idx]
  split
  · simp_all
  · split
    · simp_all
    · simp_all
set_option maxRecDepth 100000 in
set_option maxHeartbeats 4000000 in
theorem start_gone (s : Nat) (ph : Int) (r r' : Rq) (tr bu : Int) (w : World) (hs : Se w s ph r tr bu) (hp : ph = 4) : Calls Try.prog 50 #[.pointer (some ⟨s, 0, none⟩), r'.v] w fun e w' => e = .returned (.int .i64 10) ∧ Below w.heap.size w w' := by
  have I1 : ∀ W b, b = W.heap.size → Only (fun _ => False) w W → Calls Try.prog 77 #[.pointer (some ⟨s, 0, none⟩), .slice (some ⟨b, 0, none⟩) 1 1] (W.alloc (.cells #[.int .i64 4] 82)) fun e w' => e = .returned (.bool true) ∧ (W.alloc (.cells #[.int .i64 4] 82)) = w' := fun W b hbW hW => by
    subst hbW
    exact in_any s ph r tr bu _ 1 1 _ [4] true _ ((hs.blk_ hW).blk_ (only_new W _)) (reads_of_blk (Blk.new W 82 #[.int .i64 4]) rfl) (by simp [maxLen]) (by rw [idx_one, hp]; rfl)
  have H1 := Lib.hid I1
  clear I1 hs hp
  unfold Rq.v
  go_enter Try.func50, Try.ntmps50
  go_wp2_with fail
  ((with_reducible refine (H1.out _ _ (by simp) (only_new w _)).mono ?_))
  rintro e w' ⟨rfl, rfl⟩
  go_wp2_with fail
  go_ret
  exact ⟨rfl, ((Below.refl _ _).alloc (Nat.le_refl _) _).alloc (by simp) _⟩
end Go.Proofs.Ytencgokpbfkeiaa
