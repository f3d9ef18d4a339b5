/- All steps, by the document and by the code (layer 5). -/
import Derived.Test.YtmmmhkpekaimeaaT2
import Derived.Deep.LoopGhost
set_option linter.unusedVariables false
namespace Go.Proofs.Ytmmmhkpekaimeaa
open Go.ChangeShapes Go.WideShapes Go.ChangeAt Go.RowKit
def fval (o : Option (Int × Int)) : Value := .agg #[.int .i64 (oA o), .int .i64 (oC o)]
def TP (o : Option (Int × Int)) (w : World) (e : Ending) (w' : World) : Prop := e = .returned (.tuple #[fval o, .bool o.isSome]) ∧ Below w.heap.size w w'
theorem tp_of {k wh cc at_ m : Int} {o : Option (Int × Int)} {w w' : World} {v : Value} (ho : thr k wh cc at_ m = o) (hv : v = .tuple #[fval o, .bool o.isSome]) (h : Below w.heap.size w w') : TP (thr k wh cc at_ m) w (.returned v) w' :=
  ⟨by rw [ho, hv], h⟩
set_option maxRecDepth 100000 in
set_option maxHeartbeats 4000000 in
theorem thrown_any (k wh cc at_ m : Int) (w : World) : Calls Try.prog 56 #[.agg #[.int .i64 k, .int .i64 wh, .int .i64 cc, .int .i64 at_, .int .i64 m]] w (TP (thr k wh cc at_ m) w) := by
  by_cases k1 : k = 1
  · subst k1
    by_cases c0 : cc = 0
    · subst c0
      have HT := Lib.hid (thr_10 wh at_ m)
      go_enter Try.func56, Try.ntmps56
      go_wp2
      exact (bodyPost_ret (v := .tuple #[.agg #[.int .i64 0, .int .i64 0], .bool false]) (by simp [results, Try.results56, go_sem]) rfl (tp_of HT.out rfl (by repeat (first | with_reducible exact Below.refl _ _ | with_reducible assumption | with_reducible refine Below.setCell ?_ (by first | omega | (simp <;> omega)) _ | with_reducible refine below_drewN ?_ _ | with_reducible refine Below.drew ?_ | with_reducible refine Below.alloc ?_ (by first | omega | (simp <;> omega)) _))))
    · have hc : ((cc : Int) != 0) = true := by rw [bne_iff_ne]; exact c0
      have HT := Lib.hid (thr_1 wh cc at_ m c0)
      clear c0
      go_enter Try.func56, Try.ntmps56
      go_wp2
      exact (bodyPost_ret (v := .tuple #[.agg #[.int .i64 wh, .int .i64 cc], .bool true]) (by simp [results, Try.results56, go_sem]) rfl (tp_of HT.out rfl (by repeat (first | with_reducible exact Below.refl _ _ | with_reducible assumption | with_reducible refine Below.setCell ?_ (by first | omega | (simp <;> omega)) _ | with_reducible refine below_drewN ?_ _ | with_reducible refine Below.drew ?_ | with_reducible refine Below.alloc ?_ (by first | omega | (simp <;> omega)) _))))
  by_cases k2 : k = 2
  · subst k2
    have HT := Lib.hid (thr_2 wh cc at_ m)
    clear k1
    go_enter Try.func56, Try.ntmps56
    go_wp2
    exact (bodyPost_ret (v := .tuple #[.agg #[.int .i64 0, .int .i64 1], .bool true]) (by simp [results, Try.results56, go_sem]) rfl (tp_of HT.out rfl (by repeat (first | with_reducible exact Below.refl _ _ | with_reducible assumption | with_reducible refine Below.setCell ?_ (by first | omega | (simp <;> omega)) _ | with_reducible refine below_drewN ?_ _ | with_reducible refine Below.drew ?_ | with_reducible refine Below.alloc ?_ (by first | omega | (simp <;> omega)) _))))
  by_cases k3 : k = 3
  · subst k3
    clear k1 k2
    by_cases h0 : at_ < 0
    · have HT := Lib.hid (thr_3 wh cc at_ m (.inl h0))
      go_enter Try.func56, Try.ntmps56
      go_wp2
      exact (bodyPost_ret (v := .tuple #[.agg #[.int .i64 0, .int .i64 1], .bool true]) (by simp [results, Try.results56, go_sem]) rfl (tp_of HT.out rfl (by repeat (first | with_reducible exact Below.refl _ _ | with_reducible assumption | with_reducible refine Below.setCell ?_ (by first | omega | (simp <;> omega)) _ | with_reducible refine below_drewN ?_ _ | with_reducible refine Below.drew ?_ | with_reducible refine Below.alloc ?_ (by first | omega | (simp <;> omega)) _))))
    by_cases h1 : m ≤ at_
    · have HT := Lib.hid (thr_3 wh cc at_ m (.inr h1))
      go_enter Try.func56, Try.ntmps56
      go_wp2
      exact (bodyPost_ret (v := .tuple #[.agg #[.int .i64 0, .int .i64 1], .bool true]) (by simp [results, Try.results56, go_sem]) rfl (tp_of HT.out rfl (by repeat (first | with_reducible exact Below.refl _ _ | with_reducible assumption | with_reducible refine Below.setCell ?_ (by first | omega | (simp <;> omega)) _ | with_reducible refine below_drewN ?_ _ | with_reducible refine Below.drew ?_ | with_reducible refine Below.alloc ?_ (by first | omega | (simp <;> omega)) _))))
    · have HT := Lib.hid (thr_30 wh cc at_ m (by omega))
      go_enter Try.func56, Try.ntmps56
      go_wp2
      exact (bodyPost_ret (v := .tuple #[.agg #[.int .i64 0, .int .i64 0], .bool false]) (by simp [results, Try.results56, go_sem]) rfl (tp_of HT.out rfl (by repeat (first | with_reducible exact Below.refl _ _ | with_reducible assumption | with_reducible refine Below.setCell ?_ (by first | omega | (simp <;> omega)) _ | with_reducible refine below_drewN ?_ _ | with_reducible refine Below.drew ?_ | with_reducible refine Below.alloc ?_ (by first | omega | (simp <;> omega)) _))))
  · have n1 : ((k : Int) == 1) = false := by rw [beq_eq_false_iff_ne]; exact k1
    have n2 : ((k : Int) == 2) = false := by rw [beq_eq_false_iff_ne]; exact k2
    have n3 : ((k : Int) == 3) = false := by rw [beq_eq_false_iff_ne]; exact k3
    have HT := Lib.hid (thr_0 k wh cc at_ m k1 k2 k3)
    clear k1 k2 k3
    go_enter Try.func56, Try.ntmps56
    go_wp2
    exact (bodyPost_ret (v := .tuple #[.agg #[.int .i64 0, .int .i64 0], .bool false]) (by simp [results, Try.results56, go_sem]) rfl (tp_of HT.out rfl (by repeat (first | with_reducible exact Below.refl _ _ | with_reducible assumption | with_reducible refine Below.setCell ?_ (by first | omega | (simp <;> omega)) _ | with_reducible refine below_drewN ?_ _ | with_reducible refine Below.drew ?_ | with_reducible refine Below.alloc ?_ (by first | omega | (simp <;> omega)) _))))
def thrAt (S : List Int) (k : Nat) : Option (Int × Int) := thr (S.getD (k * 5) 0) (S.getD (k * 5 + 1) 0) (S.getD (k * 5 + 2) 0) (S.getD (k * 5 + 3) 0) (S.getD (k * 5 + 4) 0)
def allGo (S : List Int) : Nat → Nat → Option (Int × Int) × Nat
  | 0, k => (none, k)
  | r + 1, k => match thrAt S k with
    | some f => (some f, k)
    | none => allGo S r (k + 1)
theorem allGo_le (S : List Int) : ∀ r k, k ≤ (allGo S r k).2 ∧ (allGo S r k).2 ≤ k + r
  | 0, k => by simp [allGo]
  | r + 1, k => by
      unfold allGo
      cases thrAt S k with
      | some f => simp
      | none => have := allGo_le S r (k + 1); simp only; omega
def goStep (S : List Int) (n k : Nat) : Option (Int × Int) → Option (Int × Int) × Nat
  | some f => (some f, k)
  | none => allGo S (n - (k + 1)) (k + 1)
theorem allGo_step (S : List Int) (n k : Nat) (h : k < n) : allGo S (n - k) k = goStep S n k (thrAt S k) := by
  obtain ⟨r, hr⟩ : ∃ r, n - k = r + 1 := ⟨n - k - 1, by omega⟩
  unfold goStep
  rw [hr, show n - (k + 1) = r by omega, allGo]
def AllP (S : List Int) (n : Nat) (w : World) (e : Ending) (w' : World) : Prop :=
  e = .returned (.tuple #[fval (allGo S n 0).1, .bool (allGo S n 0).1.isSome, .int .i64 (allGo S n 0).2]) ∧ Below w.heap.size w w'
theorem reads5 {w : World} {B n k : Nat} {A : Option Addr} {S : List Int} (h : Reads w B 5 A n (iv S)) (hk : k < n) :
    ∃ b off, A = some ⟨b, off, none⟩ ∧ b < B ∧ w.cell? ⟨b, off + k * 5, none⟩ = some (.int .i64 (S.getD (k * 5) 0)) ∧ w.cell? ⟨b, off + k * 5 + 1, none⟩ = some (.int .i64 (S.getD (k * 5 + 1) 0)) ∧ w.cell? ⟨b, off + k * 5 + 2, none⟩ = some (.int .i64 (S.getD (k * 5 + 2) 0)) ∧ w.cell? ⟨b, off + k * 5 + 3, none⟩ = some (.int .i64 (S.getD (k * 5 + 3) 0)) ∧ w.cell? ⟨b, off + k * 5 + 4, none⟩ = some (.int .i64 (S.getD (k * 5 + 4) 0)) := by
  obtain ⟨b, off, hA, hb, hc⟩ := h.head (by omega) (by omega)
  exact ⟨b, off, hA, hb, hc _ (by omega), hc (k * 5 + 1) (by omega), hc (k * 5 + 2) (by omega), hc (k * 5 + 3) (by omega), hc (k * 5 + 4) (by omega)⟩
set_option maxRecDepth 100000 in
set_option maxHeartbeats 4000000 in
theorem rall_any (n c B : Nat) (A : Option Addr) (S : List Int) (w : World) (hr : Reads w B 5 A n (iv S)) (hB : B ≤ w.heap.size) (hn : n ≤ 1000) :
    Calls Try.prog 18 #[.slice A n c] w (AllP S n w) := by
  have HR := Lib.hid hr
  clear hr
  go_enter Try.func18, Try.ntmps18
  go_wp2_with fail
  go_loopg [5] n (fun g i wr => ∃ k : Nat, g = n - k ∧ k ≤ n ∧ i = .int .i64 k ∧ Below w.heap.size w wr ∧ Blk wr w.heap.size 30 #[.int .i64 0, .int .i64 0] ∧ Hid (allGo S n 0 = allGo S (n - k) k))
  case atStart => exact ⟨0, rfl, by omega, rfl, (by repeat (first | with_reducible exact Below.refl _ _ | with_reducible assumption | with_reducible refine Below.setCell ?_ (by first | omega | (simp <;> omega)) _ | with_reducible refine below_drewN ?_ _ | with_reducible refine Below.drew ?_ | with_reducible refine Below.alloc ?_ (by first | omega | (simp <;> omega)) _)), Blk.new w 30 _, Lib.hid rfl⟩
  case round =>
    obtain ⟨k, rfl, hk, rfl, kb, bf, hg⟩ := hrel
    have HF := Lib.hid bf
    have zf := bf.lt
    have f0 : wr.cell? ⟨w.heap.size, 0, none⟩ = some (.int .i64 0) := by rw [bf.cell]; rfl
    have f1 : wr.cell? ⟨w.heap.size, 1, none⟩ = some (.int .i64 0) := by rw [bf.cell]; rfl
    have f2 : wr.frozen? ⟨w.heap.size, 0, none⟩ = false := bf.frozen 0
    have f3 : wr.frozen? ⟨w.heap.size, 1, none⟩ = false := bf.frozen 1
    clear bf
    by_cases hlt : k < n
    · obtain ⟨b, off, rfl, hb, q0, q1, q2, q3, q4⟩ := reads5 (HR.out.below (kb.mono hB)) hlt
      have hT := thrown_any (S.getD (k * 5) 0) (S.getD (k * 5 + 1) 0) (S.getD (k * 5 + 2) 0) (S.getD (k * 5 + 3) 0) (S.getD (k * 5 + 4) 0)
      have hgk := (hg.out).trans (allGo_step S n k hlt)
      have ho : thr (S.getD (k * 5) 0) (S.getD (k * 5 + 1) 0) (S.getD (k * 5 + 2) 0) (S.getD (k * 5 + 3) 0) (S.getD (k * 5 + 4) 0) = thrAt S k := rfl
      rw [ho] at hT
      generalize thrAt S k = o at *
      have HK := Lib.hid hgk
      have HTT := Lib.hid hT
      clear hT hgk ho hg
      generalize S.getD (k * 5) 0 = s0 at *
      generalize S.getD (k * 5 + 1) 0 = s1 at *
      generalize S.getD (k * 5 + 2) 0 = s2 at *
      generalize S.getD (k * 5 + 3) 0 = s3 at *
      generalize S.getD (k * 5 + 4) 0 = s4 at *
      go_wp2_with fail
      match o, HK, HTT with
      | none, HK, HTT =>
        refine (HTT.out _).mono ?_
        intro e w1 hP
        obtain ⟨he, hb1⟩ := hP
        obtain rfl : e = .returned (.tuple #[.agg #[.int .i64 0, .int .i64 0], .bool false]) := he
        have k1 := kb.trans (hb1.mono kb.size)
        have F1 := HF.out.below hb1 zf
        clear f0 f1 f2 f3 q0 q1 q2 q3 q4 hb1
        go_wp2_with fail
        go_roundg (n - (k + 1))
        case measure => omega
        case rel => exact ⟨k + 1, rfl, by omega, by go_num, k1.alloc k1.size _, F1.alloc _, HK⟩
      | some (a, cc), HK, HTT =>
        refine (HTT.out _).mono ?_
        intro e w1 hP
        obtain ⟨he, hb1⟩ := hP
        obtain rfl : e = .returned (.tuple #[.agg #[.int .i64 a, .int .i64 cc], .bool true]) := he
        have k1 := kb.trans (hb1.mono kb.size)
        have F1 := HF.out.below hb1 zf
        have g0 : w1.cell? ⟨w.heap.size, 0, none⟩ = some (.int .i64 0) := by rw [F1.cell]; rfl
        have g1 : w1.cell? ⟨w.heap.size, 1, none⟩ = some (.int .i64 0) := by rw [F1.cell]; rfl
        have g2 : w1.frozen? ⟨w.heap.size, 0, none⟩ = false := F1.frozen 0
        have g3 : w1.frozen? ⟨w.heap.size, 1, none⟩ = false := F1.frozen 1
        have z1 := F1.lt
        clear f0 f1 f2 f3 q0 q1 q2 q3 q4 hb1 F1
        go_wp2_with fail
        exact bodyPost_ret (v := .tuple #[.agg #[.int .i64 a, .int .i64 cc], .bool true, .int .i64 k]) (by simp [results, Try.results18, go_sem, g0, g1, z1]) rfl ⟨by rw [HK.out]; rfl, (by repeat (first | with_reducible exact Below.refl _ _ | with_reducible assumption | with_reducible refine Below.setCell ?_ (by first | omega | (simp <;> omega)) _ | with_reducible refine below_drewN ?_ _ | with_reducible refine Below.drew ?_ | with_reducible refine Below.alloc ?_ (by first | omega | (simp <;> omega)) _))⟩
    · obtain rfl : k = n := by omega
      have hg0 := hg.out
      rw [Nat.sub_self] at hg0
      have HG := Lib.hid hg0
      clear hg hg0
      go_wp2_with fail
      exact bodyPost_ret (v := .tuple #[.agg #[.int .i64 0, .int .i64 0], .bool false, .int .i64 k]) (by simp [results, Try.results18, go_sem, f0, f1]) rfl ⟨by rw [HG.out]; rfl, (by repeat (first | with_reducible exact Below.refl _ _ | with_reducible assumption | with_reducible refine Below.setCell ?_ (by first | omega | (simp <;> omega)) _ | with_reducible refine below_drewN ?_ _ | with_reducible refine Below.drew ?_ | with_reducible refine Below.alloc ?_ (by first | omega | (simp <;> omega)) _))⟩
end Go.Proofs.Ytmmmhkpekaimeaa
