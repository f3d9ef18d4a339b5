/- Requests (layers 25 and 29): which are good, and what their kinds look at. -/
import Derived.Test.YtencgokpbfkeiaaQ
import Derived.Test.YtencgokpbfkeiaaV
import Derived.Test.YtencgokpbfkeiaaRows
import Derived.WalkKit
import Derived.Outline
import Derived.Deep.RegionHeld3
import Derived.Deep.DeepCutAuto
import Derived.Deep.QuietTactic
import Derived.BigQuiet
import Derived.Deep.AppendLies
import Derived.Laws.OwnMore
set_option linter.unusedVariables false
namespace Go.Proofs.Ytencgokpbfkeiaa
open Go.ChangeShapes Go.WideShapes Go.ChangeAt Go.RowKit
/-- a query -/
structure Qr where
  (qk : Int) (b1 : Int) (b2 : Int) (b3 : Int) (b4 : Int) (w1 : Int) (w2 : Int) (w3 : Int) (x : Int) (h : Int)
deriving DecidableEq
/-- a request -/
structure Rq where
  (k : Int) (ck : Int) (pi : Int) (px : Int) (py : Int) (si : Int) (sl : Int) (sh : Int)
  q : Qr
deriving DecidableEq
def Qr.v (q : Qr) : Value := .agg #[.int .i64 q.qk, .int .i64 q.b1, .int .i64 q.b2, .int .i64 q.b3, .int .i64 q.b4, .int .i64 q.w1, .int .i64 q.w2, .int .i64 q.w3, .int .i64 q.x, .int .i64 q.h]
def Rq.v (r : Rq) : Value := .agg #[.int .i64 r.k, .int .i64 r.ck, .int .i64 r.pi, .int .i64 r.px, .int .i64 r.py, .int .i64 r.si, .int .i64 r.sl, .int .i64 r.sh, .int .i64 r.q.qk, .int .i64 r.q.b1, .int .i64 r.q.b2, .int .i64 r.q.b3, .int .i64 r.q.b4, .int .i64 r.q.w1, .int .i64 r.q.w2, .int .i64 r.q.w3, .int .i64 r.q.x, .int .i64 r.q.h]
def Qr.zero : Qr := ⟨0, 0, 0, 0, 0, 0, 0, 0, 0, 0⟩
def Rq.zero : Rq := ⟨0, 0, 0, 0, 0, 0, 0, 0, Qr.zero⟩
/-- what a query's kind looks at -/
def Qr.only (q : Qr) : Qr :=
  if q.qk = 1 ∨ q.qk = 2 then ⟨q.qk, q.b1, q.b2, q.b3, q.b4, 0, 0, 0, 0, 0⟩
  else if q.qk = 3 ∨ q.qk = 4 then ⟨q.qk, 0, 0, 0, 0, q.w1, q.w2, q.w3, 0, 0⟩
  else if q.qk = 5 then ⟨q.qk, 0, 0, 0, 0, 0, 0, 0, q.x, 0⟩
  else if q.qk = 6 ∨ q.qk = 7 then ⟨q.qk, 0, 0, 0, 0, 0, 0, 0, q.x, q.h⟩
  else Qr.zero
/-- a request is good -/
def Rq.good (r : Rq) : Bool := decide ((r.k = 1 ∧ 1 ≤ r.ck ∧ r.ck ≤ 4) ∨ (r.k = 2 ∧ 1 ≤ r.q.qk ∧ r.q.qk ≤ 7))
/-- what a good request looks at -/
def Rq.only (r : Rq) : Rq :=
  if r.good = true then
    if r.k = 2 then ⟨2, 0, 0, 0, 0, 0, 0, 0, r.q.only⟩
    else if r.ck = 1 then ⟨1, 1, r.pi, r.px, r.py, 0, 0, 0, Qr.zero⟩
    else if r.ck = 2 then ⟨1, 2, r.pi, 0, 0, 0, 0, 0, Qr.zero⟩
    else if r.ck = 3 then ⟨1, 3, 0, 0, 0, r.si, r.sl, r.sh, Qr.zero⟩
    else ⟨1, 4, 0, 0, 0, r.si, 0, 0, Qr.zero⟩
  else Rq.zero
set_option maxHeartbeats 2000000 in
theorem ponly_1 (qk b1 b2 b3 b4 w1 w2 w3 x h : Int) (w : World) (hk : qk = 1) :
    Calls Try.prog 28 #[.agg #[.int .i64 qk, .int .i64 b1, .int .i64 b2, .int .i64 b3, .int .i64 b4, .int .i64 w1, .int .i64 w2, .int .i64 w3, .int .i64 x, .int .i64 h]] w fun e w' => e = .returned (.agg #[.int .i64 1, .int .i64 b1, .int .i64 b2, .int .i64 b3, .int .i64 b4, .int .i64 0, .int .i64 0, .int .i64 0, .int .i64 0, .int .i64 0]) ∧ Below w.heap.size w w' := by
  subst hk
  go_enter Try.func28, Try.ntmps28
  go_wp2_with fail
  exact bodyPost_ret (v := .agg #[.int .i64 1, .int .i64 b1, .int .i64 b2, .int .i64 b3, .int .i64 b4, .int .i64 0, .int .i64 0, .int .i64 0, .int .i64 0, .int .i64 0]) (by simp [results, Try.results28, go_sem]) rfl ⟨rfl, (by repeat (first | with_reducible exact Below.refl _ _ | with_reducible assumption | with_reducible refine Below.setCell ?_ (by first | omega | (simp <;> omega)) _ | with_reducible refine below_drewN ?_ _ | with_reducible refine Below.drew ?_ | with_reducible refine Below.alloc ?_ (by first | omega | (simp <;> omega)) _))⟩
set_option maxHeartbeats 2000000 in
theorem ponly_2 (qk b1 b2 b3 b4 w1 w2 w3 x h : Int) (w : World) (hk : qk = 2) :
    Calls Try.prog 28 #[.agg #[.int .i64 qk, .int .i64 b1, .int .i64 b2, .int .i64 b3, .int .i64 b4, .int .i64 w1, .int .i64 w2, .int .i64 w3, .int .i64 x, .int .i64 h]] w fun e w' => e = .returned (.agg #[.int .i64 2, .int .i64 b1, .int .i64 b2, .int .i64 b3, .int .i64 b4, .int .i64 0, .int .i64 0, .int .i64 0, .int .i64 0, .int .i64 0]) ∧ Below w.heap.size w w' := by
  subst hk
  go_enter Try.func28, Try.ntmps28
  go_wp2_with fail
  exact bodyPost_ret (v := .agg #[.int .i64 2, .int .i64 b1, .int .i64 b2, .int .i64 b3, .int .i64 b4, .int .i64 0, .int .i64 0, .int .i64 0, .int .i64 0, .int .i64 0]) (by simp [results, Try.results28, go_sem]) rfl ⟨rfl, (by repeat (first | with_reducible exact Below.refl _ _ | with_reducible assumption | with_reducible refine Below.setCell ?_ (by first | omega | (simp <;> omega)) _ | with_reducible refine below_drewN ?_ _ | with_reducible refine Below.drew ?_ | with_reducible refine Below.alloc ?_ (by first | omega | (simp <;> omega)) _))⟩
set_option maxHeartbeats 2000000 in
theorem ponly_3 (qk b1 b2 b3 b4 w1 w2 w3 x h : Int) (w : World) (hk : qk = 3) :
    Calls Try.prog 28 #[.agg #[.int .i64 qk, .int .i64 b1, .int .i64 b2, .int .i64 b3, .int .i64 b4, .int .i64 w1, .int .i64 w2, .int .i64 w3, .int .i64 x, .int .i64 h]] w fun e w' => e = .returned (.agg #[.int .i64 3, .int .i64 0, .int .i64 0, .int .i64 0, .int .i64 0, .int .i64 w1, .int .i64 w2, .int .i64 w3, .int .i64 0, .int .i64 0]) ∧ Below w.heap.size w w' := by
  subst hk
  go_enter Try.func28, Try.ntmps28
  go_wp2_with fail
  exact bodyPost_ret (v := .agg #[.int .i64 3, .int .i64 0, .int .i64 0, .int .i64 0, .int .i64 0, .int .i64 w1, .int .i64 w2, .int .i64 w3, .int .i64 0, .int .i64 0]) (by simp [results, Try.results28, go_sem]) rfl ⟨rfl, (by repeat (first | with_reducible exact Below.refl _ _ | with_reducible assumption | with_reducible refine Below.setCell ?_ (by first | omega | (simp <;> omega)) _ | with_reducible refine below_drewN ?_ _ | with_reducible refine Below.drew ?_ | with_reducible refine Below.alloc ?_ (by first | omega | (simp <;> omega)) _))⟩
set_option maxHeartbeats 2000000 in
theorem ponly_4 (qk b1 b2 b3 b4 w1 w2 w3 x h : Int) (w : World) (hk : qk = 4) :
    Calls Try.prog 28 #[.agg #[.int .i64 qk, .int .i64 b1, .int .i64 b2, .int .i64 b3, .int .i64 b4, .int .i64 w1, .int .i64 w2, .int .i64 w3, .int .i64 x, .int .i64 h]] w fun e w' => e = .returned (.agg #[.int .i64 4, .int .i64 0, .int .i64 0, .int .i64 0, .int .i64 0, .int .i64 w1, .int .i64 w2, .int .i64 w3, .int .i64 0, .int .i64 0]) ∧ Below w.heap.size w w' := by
  subst hk
  go_enter Try.func28, Try.ntmps28
  go_wp2_with fail
  exact bodyPost_ret (v := .agg #[.int .i64 4, .int .i64 0, .int .i64 0, .int .i64 0, .int .i64 0, .int .i64 w1, .int .i64 w2, .int .i64 w3, .int .i64 0, .int .i64 0]) (by simp [results, Try.results28, go_sem]) rfl ⟨rfl, (by repeat (first | with_reducible exact Below.refl _ _ | with_reducible assumption | with_reducible refine Below.setCell ?_ (by first | omega | (simp <;> omega)) _ | with_reducible refine below_drewN ?_ _ | with_reducible refine Below.drew ?_ | with_reducible refine Below.alloc ?_ (by first | omega | (simp <;> omega)) _))⟩
set_option maxHeartbeats 2000000 in
theorem ponly_5 (qk b1 b2 b3 b4 w1 w2 w3 x h : Int) (w : World) (hk : qk = 5) :
    Calls Try.prog 28 #[.agg #[.int .i64 qk, .int .i64 b1, .int .i64 b2, .int .i64 b3, .int .i64 b4, .int .i64 w1, .int .i64 w2, .int .i64 w3, .int .i64 x, .int .i64 h]] w fun e w' => e = .returned (.agg #[.int .i64 5, .int .i64 0, .int .i64 0, .int .i64 0, .int .i64 0, .int .i64 0, .int .i64 0, .int .i64 0, .int .i64 x, .int .i64 0]) ∧ Below w.heap.size w w' := by
  subst hk
  go_enter Try.func28, Try.ntmps28
  go_wp2_with fail
  exact bodyPost_ret (v := .agg #[.int .i64 5, .int .i64 0, .int .i64 0, .int .i64 0, .int .i64 0, .int .i64 0, .int .i64 0, .int .i64 0, .int .i64 x, .int .i64 0]) (by simp [results, Try.results28, go_sem]) rfl ⟨rfl, (by repeat (first | with_reducible exact Below.refl _ _ | with_reducible assumption | with_reducible refine Below.setCell ?_ (by first | omega | (simp <;> omega)) _ | with_reducible refine below_drewN ?_ _ | with_reducible refine Below.drew ?_ | with_reducible refine Below.alloc ?_ (by first | omega | (simp <;> omega)) _))⟩
set_option maxHeartbeats 2000000 in
theorem ponly_6 (qk b1 b2 b3 b4 w1 w2 w3 x h : Int) (w : World) (hk : qk = 6) :
    Calls Try.prog 28 #[.agg #[.int .i64 qk, .int .i64 b1, .int .i64 b2, .int .i64 b3, .int .i64 b4, .int .i64 w1, .int .i64 w2, .int .i64 w3, .int .i64 x, .int .i64 h]] w fun e w' => e = .returned (.agg #[.int .i64 6, .int .i64 0, .int .i64 0, .int .i64 0, .int .i64 0, .int .i64 0, .int .i64 0, .int .i64 0, .int .i64 x, .int .i64 h]) ∧ Below w.heap.size w w' := by
  subst hk
  go_enter Try.func28, Try.ntmps28
  go_wp2_with fail
  exact bodyPost_ret (v := .agg #[.int .i64 6, .int .i64 0, .int .i64 0, .int .i64 0, .int .i64 0, .int .i64 0, .int .i64 0, .int .i64 0, .int .i64 x, .int .i64 h]) (by simp [results, Try.results28, go_sem]) rfl ⟨rfl, (by repeat (first | with_reducible exact Below.refl _ _ | with_reducible assumption | with_reducible refine Below.setCell ?_ (by first | omega | (simp <;> omega)) _ | with_reducible refine below_drewN ?_ _ | with_reducible refine Below.drew ?_ | with_reducible refine Below.alloc ?_ (by first | omega | (simp <;> omega)) _))⟩
set_option maxHeartbeats 2000000 in
theorem ponly_7 (qk b1 b2 b3 b4 w1 w2 w3 x h : Int) (w : World) (hk : qk = 7) :
    Calls Try.prog 28 #[.agg #[.int .i64 qk, .int .i64 b1, .int .i64 b2, .int .i64 b3, .int .i64 b4, .int .i64 w1, .int .i64 w2, .int .i64 w3, .int .i64 x, .int .i64 h]] w fun e w' => e = .returned (.agg #[.int .i64 7, .int .i64 0, .int .i64 0, .int .i64 0, .int .i64 0, .int .i64 0, .int .i64 0, .int .i64 0, .int .i64 x, .int .i64 h]) ∧ Below w.heap.size w w' := by
  subst hk
  go_enter Try.func28, Try.ntmps28
  go_wp2_with fail
  exact bodyPost_ret (v := .agg #[.int .i64 7, .int .i64 0, .int .i64 0, .int .i64 0, .int .i64 0, .int .i64 0, .int .i64 0, .int .i64 0, .int .i64 x, .int .i64 h]) (by simp [results, Try.results28, go_sem]) rfl ⟨rfl, (by repeat (first | with_reducible exact Below.refl _ _ | with_reducible assumption | with_reducible refine Below.setCell ?_ (by first | omega | (simp <;> omega)) _ | with_reducible refine below_drewN ?_ _ | with_reducible refine Below.drew ?_ | with_reducible refine Below.alloc ?_ (by first | omega | (simp <;> omega)) _))⟩
set_option maxHeartbeats 2000000 in
theorem ponly_no (qk b1 b2 b3 b4 w1 w2 w3 x h : Int) (w : World) (h1 : (qk == 1) = false) (h2 : (qk == 2) = false) (h3 : (qk == 3) = false) (h4 : (qk == 4) = false) (h5 : (qk == 5) = false) (h6 : (qk == 6) = false) (h7 : (qk == 7) = false) :
    Calls Try.prog 28 #[.agg #[.int .i64 qk, .int .i64 b1, .int .i64 b2, .int .i64 b3, .int .i64 b4, .int .i64 w1, .int .i64 w2, .int .i64 w3, .int .i64 x, .int .i64 h]] w fun e w' => e = .returned (.agg #[.int .i64 0, .int .i64 0, .int .i64 0, .int .i64 0, .int .i64 0, .int .i64 0, .int .i64 0, .int .i64 0, .int .i64 0, .int .i64 0]) ∧ Below w.heap.size w w' := by
  skip
  go_enter Try.func28, Try.ntmps28
  go_wp2_with fail
  exact bodyPost_ret (v := .agg #[.int .i64 0, .int .i64 0, .int .i64 0, .int .i64 0, .int .i64 0, .int .i64 0, .int .i64 0, .int .i64 0, .int .i64 0, .int .i64 0]) (by simp [results, Try.results28, go_sem]) rfl ⟨rfl, (by repeat (first | with_reducible exact Below.refl _ _ | with_reducible assumption | with_reducible refine Below.setCell ?_ (by first | omega | (simp <;> omega)) _ | with_reducible refine below_drewN ?_ _ | with_reducible refine Below.drew ?_ | with_reducible refine Below.alloc ?_ (by first | omega | (simp <;> omega)) _))⟩
theorem ponly_any (qk b1 b2 b3 b4 w1 w2 w3 x h : Int) (w : World) :
    Calls Try.prog 28 #[.agg #[.int .i64 qk, .int .i64 b1, .int .i64 b2, .int .i64 b3, .int .i64 b4, .int .i64 w1, .int .i64 w2, .int .i64 w3, .int .i64 x, .int .i64 h]] w fun e w' => e = .returned (Qr.v (Qr.only ⟨qk, b1, b2, b3, b4, w1, w2, w3, x, h⟩)) ∧ Below w.heap.size w w' := by
  by_cases k1 : qk = 1
  · refine (ponly_1 qk b1 b2 b3 b4 w1 w2 w3 x h w k1).mono fun e w' h => ⟨?_, h.2⟩
    subst k1
    rw [h.1]; rfl
  by_cases k2 : qk = 2
  · refine (ponly_2 qk b1 b2 b3 b4 w1 w2 w3 x h w k2).mono fun e w' h => ⟨?_, h.2⟩
    subst k2
    rw [h.1]; rfl
  by_cases k3 : qk = 3
  · refine (ponly_3 qk b1 b2 b3 b4 w1 w2 w3 x h w k3).mono fun e w' h => ⟨?_, h.2⟩
    subst k3
    rw [h.1]; rfl
  by_cases k4 : qk = 4
  · refine (ponly_4 qk b1 b2 b3 b4 w1 w2 w3 x h w k4).mono fun e w' h => ⟨?_, h.2⟩
    subst k4
    rw [h.1]; rfl
  by_cases k5 : qk = 5
  · refine (ponly_5 qk b1 b2 b3 b4 w1 w2 w3 x h w k5).mono fun e w' h => ⟨?_, h.2⟩
    subst k5
    rw [h.1]; rfl
  by_cases k6 : qk = 6
  · refine (ponly_6 qk b1 b2 b3 b4 w1 w2 w3 x h w k6).mono fun e w' h => ⟨?_, h.2⟩
    subst k6
    rw [h.1]; rfl
  by_cases k7 : qk = 7
  · refine (ponly_7 qk b1 b2 b3 b4 w1 w2 w3 x h w k7).mono fun e w' h => ⟨?_, h.2⟩
    subst k7
    rw [h.1]; rfl
  refine (ponly_no qk b1 b2 b3 b4 w1 w2 w3 x h w (by simpa using k1) (by simpa using k2) (by simpa using k3) (by simpa using k4) (by simpa using k5) (by simpa using k6) (by simpa using k7)).mono fun e w' h => ⟨?_, h.2⟩
  rw [h.1]
  simp [Qr.only, Qr.v, Qr.zero, k1, k2, k3, k4, k5, k6, k7]
set_option maxHeartbeats 4000000 in
theorem good_any (k ck pi px py si sl sh qk b1 b2 b3 b4 w1 w2 w3 x h : Int) (w : World) :
    Calls Try.prog 30 #[.agg #[.int .i64 k, .int .i64 ck, .int .i64 pi, .int .i64 px, .int .i64 py, .int .i64 si, .int .i64 sl, .int .i64 sh, .int .i64 qk, .int .i64 b1, .int .i64 b2, .int .i64 b3, .int .i64 b4, .int .i64 w1, .int .i64 w2, .int .i64 w3, .int .i64 x, .int .i64 h]] w fun e w' => e = .returned (.bool (Rq.good ⟨k, ck, pi, px, py, si, sl, sh, ⟨qk, b1, b2, b3, b4, w1, w2, w3, x, h⟩⟩)) ∧ Below w.heap.size w w' := by
  by_cases k1 : k = 1
  · subst k1
    by_cases a1 : 1 ≤ ck
    · by_cases a2 : ck ≤ 4
      · have hg : Rq.good ⟨1, ck, pi, px, py, si, sl, sh, ⟨qk, b1, b2, b3, b4, w1, w2, w3, x, h⟩⟩ = true := by simp [Rq.good]; omega
        rw [hg]
        have d1 : decide (1 ≤ ck) = true := decide_eq_true a1
        have d2 : decide (ck ≤ 4) = true := decide_eq_true a2
        clear hg
        go_enter Try.func30, Try.ntmps30
        go_wp2_with fail
        go_ret
        exact ⟨rfl, (by repeat (first | with_reducible exact Below.refl _ _ | with_reducible assumption | with_reducible refine Below.setCell ?_ (by first | omega | (simp <;> omega)) _ | with_reducible refine below_drewN ?_ _ | with_reducible refine Below.drew ?_ | with_reducible refine Below.alloc ?_ (by first | omega | (simp <;> omega)) _))⟩
      · have hg : Rq.good ⟨1, ck, pi, px, py, si, sl, sh, ⟨qk, b1, b2, b3, b4, w1, w2, w3, x, h⟩⟩ = false := by simp [Rq.good]; omega
        rw [hg]
        have d1 : decide (1 ≤ ck) = true := decide_eq_true a1
        have d2 : decide (ck ≤ 4) = false := decide_eq_false a2
        clear hg
        go_enter Try.func30, Try.ntmps30
        go_wp2_with fail
        go_ret
        exact ⟨rfl, (by repeat (first | with_reducible exact Below.refl _ _ | with_reducible assumption | with_reducible refine Below.setCell ?_ (by first | omega | (simp <;> omega)) _ | with_reducible refine below_drewN ?_ _ | with_reducible refine Below.drew ?_ | with_reducible refine Below.alloc ?_ (by first | omega | (simp <;> omega)) _))⟩
    · have hg : Rq.good ⟨1, ck, pi, px, py, si, sl, sh, ⟨qk, b1, b2, b3, b4, w1, w2, w3, x, h⟩⟩ = false := by simp [Rq.good]; omega
      rw [hg]
      have d1 : decide (1 ≤ ck) = false := decide_eq_false a1
      clear hg
      go_enter Try.func30, Try.ntmps30
      go_wp2_with fail
      go_ret
      exact ⟨rfl, (by repeat (first | with_reducible exact Below.refl _ _ | with_reducible assumption | with_reducible refine Below.setCell ?_ (by first | omega | (simp <;> omega)) _ | with_reducible refine below_drewN ?_ _ | with_reducible refine Below.drew ?_ | with_reducible refine Below.alloc ?_ (by first | omega | (simp <;> omega)) _))⟩
  · have e1 : (k == 1) = false := by simpa using k1
    by_cases k2 : k = 2
    · subst k2
      by_cases a1 : 1 ≤ qk
      · by_cases a2 : qk ≤ 7
        · have hg : Rq.good ⟨2, ck, pi, px, py, si, sl, sh, ⟨qk, b1, b2, b3, b4, w1, w2, w3, x, h⟩⟩ = true := by simp [Rq.good]; omega
          rw [hg]
          have d1 : decide (1 ≤ qk) = true := decide_eq_true a1
          have d2 : decide (qk ≤ 7) = true := decide_eq_true a2
          clear hg
          go_enter Try.func30, Try.ntmps30
          go_wp2_with fail
          go_ret
          exact ⟨rfl, (by repeat (first | with_reducible exact Below.refl _ _ | with_reducible assumption | with_reducible refine Below.setCell ?_ (by first | omega | (simp <;> omega)) _ | with_reducible refine below_drewN ?_ _ | with_reducible refine Below.drew ?_ | with_reducible refine Below.alloc ?_ (by first | omega | (simp <;> omega)) _))⟩
        · have hg : Rq.good ⟨2, ck, pi, px, py, si, sl, sh, ⟨qk, b1, b2, b3, b4, w1, w2, w3, x, h⟩⟩ = false := by simp [Rq.good]; omega
          rw [hg]
          have d1 : decide (1 ≤ qk) = true := decide_eq_true a1
          have d2 : decide (qk ≤ 7) = false := decide_eq_false a2
          clear hg
          go_enter Try.func30, Try.ntmps30
          go_wp2_with fail
          go_ret
          exact ⟨rfl, (by repeat (first | with_reducible exact Below.refl _ _ | with_reducible assumption | with_reducible refine Below.setCell ?_ (by first | omega | (simp <;> omega)) _ | with_reducible refine below_drewN ?_ _ | with_reducible refine Below.drew ?_ | with_reducible refine Below.alloc ?_ (by first | omega | (simp <;> omega)) _))⟩
      · have hg : Rq.good ⟨2, ck, pi, px, py, si, sl, sh, ⟨qk, b1, b2, b3, b4, w1, w2, w3, x, h⟩⟩ = false := by simp [Rq.good]; omega
        rw [hg]
        have d1 : decide (1 ≤ qk) = false := decide_eq_false a1
        clear hg
        go_enter Try.func30, Try.ntmps30
        go_wp2_with fail
        go_ret
        exact ⟨rfl, (by repeat (first | with_reducible exact Below.refl _ _ | with_reducible assumption | with_reducible refine Below.setCell ?_ (by first | omega | (simp <;> omega)) _ | with_reducible refine below_drewN ?_ _ | with_reducible refine Below.drew ?_ | with_reducible refine Below.alloc ?_ (by first | omega | (simp <;> omega)) _))⟩
    · have e2 : (k == 2) = false := by simpa using k2
      have hg : Rq.good ⟨k, ck, pi, px, py, si, sl, sh, ⟨qk, b1, b2, b3, b4, w1, w2, w3, x, h⟩⟩ = false := by simp [Rq.good, k1, k2]
      rw [hg]
      clear hg
      go_enter Try.func30, Try.ntmps30
      go_wp2_with fail
      go_ret
      exact ⟨rfl, (by repeat (first | with_reducible exact Below.refl _ _ | with_reducible assumption | with_reducible refine Below.setCell ?_ (by first | omega | (simp <;> omega)) _ | with_reducible refine below_drewN ?_ _ | with_reducible refine Below.drew ?_ | with_reducible refine Below.alloc ?_ (by first | omega | (simp <;> omega)) _))⟩
set_option maxHeartbeats 4000000 in
theorem rgood_any (k ck pi px py si sl sh qk b1 b2 b3 b4 w1 w2 w3 x h : Int) (w : World) :
    Calls Try.prog 31 #[.agg #[.int .i64 k, .int .i64 ck, .int .i64 pi, .int .i64 px, .int .i64 py, .int .i64 si, .int .i64 sl, .int .i64 sh, .int .i64 qk, .int .i64 b1, .int .i64 b2, .int .i64 b3, .int .i64 b4, .int .i64 w1, .int .i64 w2, .int .i64 w3, .int .i64 x, .int .i64 h]] w fun e w' => e = .returned (.bool (Rq.good ⟨k, ck, pi, px, py, si, sl, sh, ⟨qk, b1, b2, b3, b4, w1, w2, w3, x, h⟩⟩)) ∧ Below w.heap.size w w' := by
  by_cases k1 : k = 1
  · subst k1
    by_cases a1 : 1 ≤ ck
    · by_cases a2 : ck ≤ 4
      · have hg : Rq.good ⟨1, ck, pi, px, py, si, sl, sh, ⟨qk, b1, b2, b3, b4, w1, w2, w3, x, h⟩⟩ = true := by simp [Rq.good]; omega
        rw [hg]
        have d1 : decide (1 ≤ ck) = true := decide_eq_true a1
        have d2 : decide (ck ≤ 4) = true := decide_eq_true a2
        clear hg
        go_enter Try.func31, Try.ntmps31
        go_wp2_with fail
        go_ret
        exact ⟨rfl, (by repeat (first | with_reducible exact Below.refl _ _ | with_reducible assumption | with_reducible refine Below.setCell ?_ (by first | omega | (simp <;> omega)) _ | with_reducible refine below_drewN ?_ _ | with_reducible refine Below.drew ?_ | with_reducible refine Below.alloc ?_ (by first | omega | (simp <;> omega)) _))⟩
      · have hg : Rq.good ⟨1, ck, pi, px, py, si, sl, sh, ⟨qk, b1, b2, b3, b4, w1, w2, w3, x, h⟩⟩ = false := by simp [Rq.good]; omega
        rw [hg]
        have d1 : decide (1 ≤ ck) = true := decide_eq_true a1
        have d2 : decide (ck ≤ 4) = false := decide_eq_false a2
        clear hg
        go_enter Try.func31, Try.ntmps31
        go_wp2_with fail
        go_ret
        exact ⟨rfl, (by repeat (first | with_reducible exact Below.refl _ _ | with_reducible assumption | with_reducible refine Below.setCell ?_ (by first | omega | (simp <;> omega)) _ | with_reducible refine below_drewN ?_ _ | with_reducible refine Below.drew ?_ | with_reducible refine Below.alloc ?_ (by first | omega | (simp <;> omega)) _))⟩
    · have hg : Rq.good ⟨1, ck, pi, px, py, si, sl, sh, ⟨qk, b1, b2, b3, b4, w1, w2, w3, x, h⟩⟩ = false := by simp [Rq.good]; omega
      rw [hg]
      have d1 : decide (1 ≤ ck) = false := decide_eq_false a1
      clear hg
      go_enter Try.func31, Try.ntmps31
      go_wp2_with fail
      go_ret
      exact ⟨rfl, (by repeat (first | with_reducible exact Below.refl _ _ | with_reducible assumption | with_reducible refine Below.setCell ?_ (by first | omega | (simp <;> omega)) _ | with_reducible refine below_drewN ?_ _ | with_reducible refine Below.drew ?_ | with_reducible refine Below.alloc ?_ (by first | omega | (simp <;> omega)) _))⟩
  · have e1 : (k == 1) = false := by simpa using k1
    by_cases k2 : k = 2
    · subst k2
      by_cases a1 : 1 ≤ qk
      · by_cases a2 : qk ≤ 7
        · have hg : Rq.good ⟨2, ck, pi, px, py, si, sl, sh, ⟨qk, b1, b2, b3, b4, w1, w2, w3, x, h⟩⟩ = true := by simp [Rq.good]; omega
          rw [hg]
          have d1 : decide (1 ≤ qk) = true := decide_eq_true a1
          have d2 : decide (qk ≤ 7) = true := decide_eq_true a2
          clear hg
          go_enter Try.func31, Try.ntmps31
          go_wp2_with fail
          go_ret
          exact ⟨rfl, (by repeat (first | with_reducible exact Below.refl _ _ | with_reducible assumption | with_reducible refine Below.setCell ?_ (by first | omega | (simp <;> omega)) _ | with_reducible refine below_drewN ?_ _ | with_reducible refine Below.drew ?_ | with_reducible refine Below.alloc ?_ (by first | omega | (simp <;> omega)) _))⟩
        · have hg : Rq.good ⟨2, ck, pi, px, py, si, sl, sh, ⟨qk, b1, b2, b3, b4, w1, w2, w3, x, h⟩⟩ = false := by simp [Rq.good]; omega
          rw [hg]
          have d1 : decide (1 ≤ qk) = true := decide_eq_true a1
          have d2 : decide (qk ≤ 7) = false := decide_eq_false a2
          clear hg
          go_enter Try.func31, Try.ntmps31
          go_wp2_with fail
          go_ret
          exact ⟨rfl, (by repeat (first | with_reducible exact Below.refl _ _ | with_reducible assumption | with_reducible refine Below.setCell ?_ (by first | omega | (simp <;> omega)) _ | with_reducible refine below_drewN ?_ _ | with_reducible refine Below.drew ?_ | with_reducible refine Below.alloc ?_ (by first | omega | (simp <;> omega)) _))⟩
      · have hg : Rq.good ⟨2, ck, pi, px, py, si, sl, sh, ⟨qk, b1, b2, b3, b4, w1, w2, w3, x, h⟩⟩ = false := by simp [Rq.good]; omega
        rw [hg]
        have d1 : decide (1 ≤ qk) = false := decide_eq_false a1
        clear hg
        go_enter Try.func31, Try.ntmps31
        go_wp2_with fail
        go_ret
        exact ⟨rfl, (by repeat (first | with_reducible exact Below.refl _ _ | with_reducible assumption | with_reducible refine Below.setCell ?_ (by first | omega | (simp <;> omega)) _ | with_reducible refine below_drewN ?_ _ | with_reducible refine Below.drew ?_ | with_reducible refine Below.alloc ?_ (by first | omega | (simp <;> omega)) _))⟩
    · have e2 : (k == 2) = false := by simpa using k2
      have hg : Rq.good ⟨k, ck, pi, px, py, si, sl, sh, ⟨qk, b1, b2, b3, b4, w1, w2, w3, x, h⟩⟩ = false := by simp [Rq.good, k1, k2]
      rw [hg]
      clear hg
      go_enter Try.func31, Try.ntmps31
      go_wp2_with fail
      go_ret
      exact ⟨rfl, (by repeat (first | with_reducible exact Below.refl _ _ | with_reducible assumption | with_reducible refine Below.setCell ?_ (by first | omega | (simp <;> omega)) _ | with_reducible refine below_drewN ?_ _ | with_reducible refine Below.drew ?_ | with_reducible refine Below.alloc ?_ (by first | omega | (simp <;> omega)) _))⟩
end Go.Proofs.Ytencgokpbfkeiaa
