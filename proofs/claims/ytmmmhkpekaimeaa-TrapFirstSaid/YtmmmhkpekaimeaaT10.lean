/- Which of three is the first that errs (layer 5). -/
import Derived.Test.YtmmmhkpekaimeaaT7
import Derived.LoopN
set_option linter.unusedVariables false
namespace Go.Proofs.Ytmmmhkpekaimeaa
open Go.ChangeShapes Go.WideShapes Go.ChangeAt Go.RowKit
def Dr (w : World) (base g n c : Nat) (A : Option Addr) (S : List Int) (d : Int) : Prop :=
  Blk w g 27 (dcells A n c d 0) ∧ w.ownsRow base 94 5 (.slice A n c) n (iv S) ∧ (∀ b, (Value.slice A n c).ownBlock = some b → b < g) ∧ base ≤ g
theorem Dr.reads {w : World} {base g n c : Nat} {A : Option Addr} {S : List Int} {d : Int} (h : Dr w base g n c A S d) : Reads w g 5 A n (iv S) := by
  obtain ⟨_, ho, hl, _⟩ := h
  obtain ⟨h1, h2⟩ := Reads.of_own ho
  refine ⟨h1, fun h0 => ?_⟩
  obtain ⟨ad, hA, hb, hc⟩ := h2 h0
  subst hA
  exact ⟨ad, rfl, hl _ rfl, hc⟩
theorem Dr.keep {w w' : World} {base g n c : Nat} {A : Option Addr} {S : List Int} {d : Int} {P : Nat → Prop} (h : Dr w base g n c A S d) (ho : Only P w w') (hn : ∀ b, base ≤ b → b ≤ g → ¬ P b) : Dr w' base g n c A S d := by
  obtain ⟨hb, hw, hl, hg⟩ := h
  exact ⟨ho.blk hb (hn g hg (Nat.le_refl _)), ho.own hw (fun k hk => hn k (hw.lt k hk).1 (Nat.le_of_lt (hl k hk))), hl, hg⟩
theorem Dr.after {w w' : World} {base g n c : Nat} {A : Option Addr} {S : List Int} {d d' : Int} (h : Dr w base g n c A S d) (hb : Blk w' g 27 (dcells A n c d' 0)) (ho : Only (fun b => b = g) w w') : Dr w' base g n c A S d' := by
  obtain ⟨_, hw, hl, hg⟩ := h
  exact ⟨hb, ho.own hw (fun k hk hkg => by have := hl k hk; omega), hl, hg⟩
theorem Dr.code {w : World} {base g n c : Nat} {A : Option Addr} {S : List Int} (h : Dr w base g n c A S 0) (hS : Hid (okS S n)) (hn : n ≤ 1000) :
    Calls Try.prog 19 #[.func (.func 20) #[.pointer (some ⟨g, 0, none⟩)] #[]] w fun e w' => e = .returned (.int .i64 (codeOf 0 (allGo S n 0).1)) ∧ Dr w' base g n c A S (0 + ((allGo S n 0).2 : Int)) ∧ Only (fun b => b = g) w w' :=
  (code_coded g n c g A 0 0 S w h.1 h.reads (Nat.le_refl _) hS hn (by omega)).mono fun e w' ⟨h1, h2, h3⟩ => ⟨h1, h.after h2 h3, h3⟩
theorem thr_ne {k wh cc at_ m a c : Int} (h : thr k wh cc at_ m = some (a, c)) : c ≠ 0 := by
  unfold thr at h
  split at h
  · rename_i h1; cases h; exact h1.2
  · split at h
    · cases h; decide
    · split at h
      · cases h; decide
      · cases h
theorem allGo_ne (S : List Int) : ∀ r k a c, (allGo S r k).1 = some (a, c) → c ≠ 0
  | 0, k, a, c, h => by simp [allGo] at h
  | r + 1, k, a, c, h => by
      unfold allGo at h
      cases ht : thrAt S k with
      | none => rw [ht] at h; exact allGo_ne S r (k + 1) a c h
      | some f => obtain ⟨a', c'⟩ := f; rw [ht] at h; simp only at h; cases h; exact thr_ne ht
set_option maxRecDepth 100000 in
set_option maxHeartbeats 4000000 in
theorem first_0 (b0 g0 n0 c0 : Nat) (A0 : Option Addr) (S0 : List Int) (b1 g1 n1 c1 : Nat) (A1 : Option Addr) (S1 : List Int) (b2 g2 n2 c2 : Nat) (A2 : Option Addr) (S2 : List Int) (fb c : Nat) (a cc : Int) (w : World) (h0 : Dr w b0 g0 n0 c0 A0 S0 (0)) (h1 : Dr w b1 g1 n1 c1 A1 S1 (0)) (h2 : Dr w b2 g2 n2 c2 A2 S2 (0))
    (hS0 : Hid (okS S0 n0)) (hn0 : n0 ≤ 1000) (hS1 : Hid (okS S1 n1)) (hn1 : n1 ≤ 1000) (hS2 : Hid (okS S2 n2)) (hn2 : n2 ≤ 1000) (o01 : g0 < b1) (o12 : g1 < b2) (hf : Blk w fb 37 #[.func (.func 20) #[.pointer (some ⟨g0, 0, none⟩)] #[], .func (.func 20) #[.pointer (some ⟨g1, 0, none⟩)] #[], .func (.func 20) #[.pointer (some ⟨g2, 0, none⟩)] #[]])  (z0 : (allGo S0 n0 0).1 = some (a, cc)) :
    Calls Try.prog 23 #[.slice (some ⟨fb, 0, none⟩) 3 c] w fun e w' => e = .returned (.tuple #[.int .i64 0, .int .i64 cc]) ∧ Dr w' b0 g0 n0 c0 A0 S0 (0 + ((allGo S0 n0 0).2 : Int)) ∧ Dr w' b1 g1 n1 c1 A1 S1 (0) ∧ Dr w' b2 g2 n2 c2 A2 S2 (0) ∧ Only (fun b => b = g0 ∨ b = g1 ∨ b = g2) w w' := by
  obtain ⟨-, -, -, bg1⟩ := id h1
  obtain ⟨-, -, -, bg2⟩ := id h2
  have nf0 := hf.lt
  have hfg : ∀ j, Blk w j 27 = Blk w j 27 := fun _ => rfl
  have ne0 : fb ≠ g0 := Blk.ne_ hf h0.1 (by decide)
  have ne1 : fb ≠ g1 := Blk.ne_ hf h1.1 (by decide)
  have ne2 : fb ≠ g2 := Blk.ne_ hf h2.1 (by decide)
  have HF := Lib.hid hf
  have H0 := Lib.hid h0
  have H1 := Lib.hid h1
  have H2 := Lib.hid h2
  have f0 : w.cell? ⟨fb, 0, none⟩ = some (.func (.func 20) #[.pointer (some ⟨g0, 0, none⟩)] #[]) := by rw [hf.cell]; rfl
  clear hf h0 h1 h2 hfg
  have Z0 := Lib.hid z0
  clear z0
  go_enter Try.func23, Try.ntmps23
  go_wp2_with fail
  refine wp_loop_rounds 4 ?_
  rw [rounds_succ]
  go_wp2_with fail
  have C0 := (H0.out).code hS0 hn0
  rw [Z0.out] at C0
  have HC0 := Lib.hid C0
  clear C0
  refine (HC0.out).mono ?_
  intro e w1 hP
  obtain ⟨he, d0, ho0⟩ := hP
  obtain rfl : e = .returned (.int .i64 cc) := he
  have hcc : ((cc : Int) != 0) = true := by rw [bne_iff_ne]; exact allGo_ne S0 n0 0 a cc Z0.out
  have H0 := Lib.hid d0
  have H1 := Lib.hid ((H1.out).keep ho0 (fun b hb1 hb2 h => by omega))
  have H2 := Lib.hid ((H2.out).keep ho0 (fun b hb1 hb2 h => by omega))
  have HF := Lib.hid (ho0.blk HF.out (fun h => by omega))
  have O0 : Hid (Only (fun b => b = g0 ∨ b = g1 ∨ b = g2) w w1) := Lib.hid ((Only.refl _ w).trans ho0 (fun _ _ h => by omega))
  have f1 : w1.cell? ⟨fb, 1, none⟩ = some (.func (.func 20) #[.pointer (some ⟨g1, 0, none⟩)] #[]) := by rw [HF.out.cell]; rfl
  clear f0 ho0 d0 HC0
  go_wp2_with fail
  go_ret2
  exact ⟨rfl, H0.out, H1.out, H2.out, O0.out⟩
set_option maxRecDepth 100000 in
set_option maxHeartbeats 4000000 in
theorem first_1 (b0 g0 n0 c0 : Nat) (A0 : Option Addr) (S0 : List Int) (b1 g1 n1 c1 : Nat) (A1 : Option Addr) (S1 : List Int) (b2 g2 n2 c2 : Nat) (A2 : Option Addr) (S2 : List Int) (fb c : Nat) (a cc : Int) (w : World) (h0 : Dr w b0 g0 n0 c0 A0 S0 (0)) (h1 : Dr w b1 g1 n1 c1 A1 S1 (0)) (h2 : Dr w b2 g2 n2 c2 A2 S2 (0))
    (hS0 : Hid (okS S0 n0)) (hn0 : n0 ≤ 1000) (hS1 : Hid (okS S1 n1)) (hn1 : n1 ≤ 1000) (hS2 : Hid (okS S2 n2)) (hn2 : n2 ≤ 1000) (o01 : g0 < b1) (o12 : g1 < b2) (hf : Blk w fb 37 #[.func (.func 20) #[.pointer (some ⟨g0, 0, none⟩)] #[], .func (.func 20) #[.pointer (some ⟨g1, 0, none⟩)] #[], .func (.func 20) #[.pointer (some ⟨g2, 0, none⟩)] #[]]) (z0 : (allGo S0 n0 0).1 = none) (z1 : (allGo S1 n1 0).1 = some (a, cc)) :
    Calls Try.prog 23 #[.slice (some ⟨fb, 0, none⟩) 3 c] w fun e w' => e = .returned (.tuple #[.int .i64 1, .int .i64 cc]) ∧ Dr w' b0 g0 n0 c0 A0 S0 (0 + ((allGo S0 n0 0).2 : Int)) ∧ Dr w' b1 g1 n1 c1 A1 S1 (0 + ((allGo S1 n1 0).2 : Int)) ∧ Dr w' b2 g2 n2 c2 A2 S2 (0) ∧ Only (fun b => b = g0 ∨ b = g1 ∨ b = g2) w w' := by
  obtain ⟨-, -, -, bg1⟩ := id h1
  obtain ⟨-, -, -, bg2⟩ := id h2
  have nf0 := hf.lt
  have hfg : ∀ j, Blk w j 27 = Blk w j 27 := fun _ => rfl
  have ne0 : fb ≠ g0 := Blk.ne_ hf h0.1 (by decide)
  have ne1 : fb ≠ g1 := Blk.ne_ hf h1.1 (by decide)
  have ne2 : fb ≠ g2 := Blk.ne_ hf h2.1 (by decide)
  have HF := Lib.hid hf
  have H0 := Lib.hid h0
  have H1 := Lib.hid h1
  have H2 := Lib.hid h2
  have f0 : w.cell? ⟨fb, 0, none⟩ = some (.func (.func 20) #[.pointer (some ⟨g0, 0, none⟩)] #[]) := by rw [hf.cell]; rfl
  clear hf h0 h1 h2 hfg
  have Z0 := Lib.hid z0
  clear z0
  have Z1 := Lib.hid z1
  clear z1
  go_enter Try.func23, Try.ntmps23
  go_wp2_with fail
  refine wp_loop_rounds 4 ?_
  rw [rounds_succ]
  go_wp2_with fail
  have C0 := (H0.out).code hS0 hn0
  rw [Z0.out] at C0
  have HC0 := Lib.hid C0
  clear C0
  refine (HC0.out).mono ?_
  intro e w1 hP
  obtain ⟨he, d0, ho0⟩ := hP
  obtain rfl : e = .returned (.int .i64 0) := he
  have H0 := Lib.hid d0
  have H1 := Lib.hid ((H1.out).keep ho0 (fun b hb1 hb2 h => by omega))
  have H2 := Lib.hid ((H2.out).keep ho0 (fun b hb1 hb2 h => by omega))
  have HF := Lib.hid (ho0.blk HF.out (fun h => by omega))
  have O0 : Hid (Only (fun b => b = g0 ∨ b = g1 ∨ b = g2) w w1) := Lib.hid ((Only.refl _ w).trans ho0 (fun _ _ h => by omega))
  have f1 : w1.cell? ⟨fb, 1, none⟩ = some (.func (.func 20) #[.pointer (some ⟨g1, 0, none⟩)] #[]) := by rw [HF.out.cell]; rfl
  clear f0 ho0 d0 HC0
  go_wp2_with fail
  rw [rounds_succ]
  go_wp2_with fail
  have C1 := (H1.out).code hS1 hn1
  rw [Z1.out] at C1
  have HC1 := Lib.hid C1
  clear C1
  refine (HC1.out).mono ?_
  intro e w2 hP
  obtain ⟨he, d1, ho1⟩ := hP
  obtain rfl : e = .returned (.int .i64 cc) := he
  have hcc : ((cc : Int) != 0) = true := by rw [bne_iff_ne]; exact allGo_ne S1 n1 0 a cc Z1.out
  have H0 := Lib.hid ((H0.out).keep ho1 (fun b hb1 hb2 h => by omega))
  have H1 := Lib.hid d1
  have H2 := Lib.hid ((H2.out).keep ho1 (fun b hb1 hb2 h => by omega))
  have HF := Lib.hid (ho1.blk HF.out (fun h => by omega))
  have O1 : Hid (Only (fun b => b = g0 ∨ b = g1 ∨ b = g2) w w2) := Lib.hid ((O0.out).trans ho1 (fun _ _ h => by omega))
  have f2 : w2.cell? ⟨fb, 2, none⟩ = some (.func (.func 20) #[.pointer (some ⟨g2, 0, none⟩)] #[]) := by rw [HF.out.cell]; rfl
  clear f1 ho1 d1 HC1
  go_wp2_with fail
  go_ret2
  exact ⟨rfl, H0.out, H1.out, H2.out, O1.out⟩
set_option maxRecDepth 100000 in
set_option maxHeartbeats 4000000 in
theorem first_2 (b0 g0 n0 c0 : Nat) (A0 : Option Addr) (S0 : List Int) (b1 g1 n1 c1 : Nat) (A1 : Option Addr) (S1 : List Int) (b2 g2 n2 c2 : Nat) (A2 : Option Addr) (S2 : List Int) (fb c : Nat) (a cc : Int) (w : World) (h0 : Dr w b0 g0 n0 c0 A0 S0 (0)) (h1 : Dr w b1 g1 n1 c1 A1 S1 (0)) (h2 : Dr w b2 g2 n2 c2 A2 S2 (0))
    (hS0 : Hid (okS S0 n0)) (hn0 : n0 ≤ 1000) (hS1 : Hid (okS S1 n1)) (hn1 : n1 ≤ 1000) (hS2 : Hid (okS S2 n2)) (hn2 : n2 ≤ 1000) (o01 : g0 < b1) (o12 : g1 < b2) (hf : Blk w fb 37 #[.func (.func 20) #[.pointer (some ⟨g0, 0, none⟩)] #[], .func (.func 20) #[.pointer (some ⟨g1, 0, none⟩)] #[], .func (.func 20) #[.pointer (some ⟨g2, 0, none⟩)] #[]]) (z0 : (allGo S0 n0 0).1 = none) (z1 : (allGo S1 n1 0).1 = none) (z2 : (allGo S2 n2 0).1 = some (a, cc)) :
    Calls Try.prog 23 #[.slice (some ⟨fb, 0, none⟩) 3 c] w fun e w' => e = .returned (.tuple #[.int .i64 2, .int .i64 cc]) ∧ Dr w' b0 g0 n0 c0 A0 S0 (0 + ((allGo S0 n0 0).2 : Int)) ∧ Dr w' b1 g1 n1 c1 A1 S1 (0 + ((allGo S1 n1 0).2 : Int)) ∧ Dr w' b2 g2 n2 c2 A2 S2 (0 + ((allGo S2 n2 0).2 : Int)) ∧ Only (fun b => b = g0 ∨ b = g1 ∨ b = g2) w w' := by
  obtain ⟨-, -, -, bg1⟩ := id h1
  obtain ⟨-, -, -, bg2⟩ := id h2
  have nf0 := hf.lt
  have hfg : ∀ j, Blk w j 27 = Blk w j 27 := fun _ => rfl
  have ne0 : fb ≠ g0 := Blk.ne_ hf h0.1 (by decide)
  have ne1 : fb ≠ g1 := Blk.ne_ hf h1.1 (by decide)
  have ne2 : fb ≠ g2 := Blk.ne_ hf h2.1 (by decide)
  have HF := Lib.hid hf
  have H0 := Lib.hid h0
  have H1 := Lib.hid h1
  have H2 := Lib.hid h2
  have f0 : w.cell? ⟨fb, 0, none⟩ = some (.func (.func 20) #[.pointer (some ⟨g0, 0, none⟩)] #[]) := by rw [hf.cell]; rfl
  clear hf h0 h1 h2 hfg
  have Z0 := Lib.hid z0
  clear z0
  have Z1 := Lib.hid z1
  clear z1
  have Z2 := Lib.hid z2
  clear z2
  go_enter Try.func23, Try.ntmps23
  go_wp2_with fail
  refine wp_loop_rounds 4 ?_
  rw [rounds_succ]
  go_wp2_with fail
  have C0 := (H0.out).code hS0 hn0
  rw [Z0.out] at C0
  have HC0 := Lib.hid C0
  clear C0
  refine (HC0.out).mono ?_
  intro e w1 hP
  obtain ⟨he, d0, ho0⟩ := hP
  obtain rfl : e = .returned (.int .i64 0) := he
  have H0 := Lib.hid d0
  have H1 := Lib.hid ((H1.out).keep ho0 (fun b hb1 hb2 h => by omega))
  have H2 := Lib.hid ((H2.out).keep ho0 (fun b hb1 hb2 h => by omega))
  have HF := Lib.hid (ho0.blk HF.out (fun h => by omega))
  have O0 : Hid (Only (fun b => b = g0 ∨ b = g1 ∨ b = g2) w w1) := Lib.hid ((Only.refl _ w).trans ho0 (fun _ _ h => by omega))
  have f1 : w1.cell? ⟨fb, 1, none⟩ = some (.func (.func 20) #[.pointer (some ⟨g1, 0, none⟩)] #[]) := by rw [HF.out.cell]; rfl
  clear f0 ho0 d0 HC0
  go_wp2_with fail
  rw [rounds_succ]
  go_wp2_with fail
  have C1 := (H1.out).code hS1 hn1
  rw [Z1.out] at C1
  have HC1 := Lib.hid C1
  clear C1
  refine (HC1.out).mono ?_
  intro e w2 hP
  obtain ⟨he, d1, ho1⟩ := hP
  obtain rfl : e = .returned (.int .i64 0) := he
  have H0 := Lib.hid ((H0.out).keep ho1 (fun b hb1 hb2 h => by omega))
  have H1 := Lib.hid d1
  have H2 := Lib.hid ((H2.out).keep ho1 (fun b hb1 hb2 h => by omega))
  have HF := Lib.hid (ho1.blk HF.out (fun h => by omega))
  have O1 : Hid (Only (fun b => b = g0 ∨ b = g1 ∨ b = g2) w w2) := Lib.hid ((O0.out).trans ho1 (fun _ _ h => by omega))
  have f2 : w2.cell? ⟨fb, 2, none⟩ = some (.func (.func 20) #[.pointer (some ⟨g2, 0, none⟩)] #[]) := by rw [HF.out.cell]; rfl
  clear f1 ho1 d1 HC1
  go_wp2_with fail
  rw [rounds_succ]
  go_wp2_with fail
  have C2 := (H2.out).code hS2 hn2
  rw [Z2.out] at C2
  have HC2 := Lib.hid C2
  clear C2
  refine (HC2.out).mono ?_
  intro e w3 hP
  obtain ⟨he, d2, ho2⟩ := hP
  obtain rfl : e = .returned (.int .i64 cc) := he
  have hcc : ((cc : Int) != 0) = true := by rw [bne_iff_ne]; exact allGo_ne S2 n2 0 a cc Z2.out
  have H0 := Lib.hid ((H0.out).keep ho2 (fun b hb1 hb2 h => by omega))
  have H1 := Lib.hid ((H1.out).keep ho2 (fun b hb1 hb2 h => by omega))
  have H2 := Lib.hid d2
  have HF := Lib.hid (ho2.blk HF.out (fun h => by omega))
  have O2 : Hid (Only (fun b => b = g0 ∨ b = g1 ∨ b = g2) w w3) := Lib.hid ((O1.out).trans ho2 (fun _ _ h => by omega))
  clear f2 ho2 d2 HC2
  go_wp2_with fail
  go_ret2
  exact ⟨rfl, H0.out, H1.out, H2.out, O2.out⟩
set_option maxRecDepth 100000 in
set_option maxHeartbeats 4000000 in
theorem first_3 (b0 g0 n0 c0 : Nat) (A0 : Option Addr) (S0 : List Int) (b1 g1 n1 c1 : Nat) (A1 : Option Addr) (S1 : List Int) (b2 g2 n2 c2 : Nat) (A2 : Option Addr) (S2 : List Int) (fb c : Nat)  (w : World) (h0 : Dr w b0 g0 n0 c0 A0 S0 (0)) (h1 : Dr w b1 g1 n1 c1 A1 S1 (0)) (h2 : Dr w b2 g2 n2 c2 A2 S2 (0))
    (hS0 : Hid (okS S0 n0)) (hn0 : n0 ≤ 1000) (hS1 : Hid (okS S1 n1)) (hn1 : n1 ≤ 1000) (hS2 : Hid (okS S2 n2)) (hn2 : n2 ≤ 1000) (o01 : g0 < b1) (o12 : g1 < b2) (hf : Blk w fb 37 #[.func (.func 20) #[.pointer (some ⟨g0, 0, none⟩)] #[], .func (.func 20) #[.pointer (some ⟨g1, 0, none⟩)] #[], .func (.func 20) #[.pointer (some ⟨g2, 0, none⟩)] #[]]) (z0 : (allGo S0 n0 0).1 = none) (z1 : (allGo S1 n1 0).1 = none) (z2 : (allGo S2 n2 0).1 = none) :
    Calls Try.prog 23 #[.slice (some ⟨fb, 0, none⟩) 3 c] w fun e w' => e = .returned (.tuple #[.int .i64 3, .int .i64 0]) ∧ Dr w' b0 g0 n0 c0 A0 S0 (0 + ((allGo S0 n0 0).2 : Int)) ∧ Dr w' b1 g1 n1 c1 A1 S1 (0 + ((allGo S1 n1 0).2 : Int)) ∧ Dr w' b2 g2 n2 c2 A2 S2 (0 + ((allGo S2 n2 0).2 : Int)) ∧ Only (fun b => b = g0 ∨ b = g1 ∨ b = g2) w w' := by
  obtain ⟨-, -, -, bg1⟩ := id h1
  obtain ⟨-, -, -, bg2⟩ := id h2
  have nf0 := hf.lt
  have hfg : ∀ j, Blk w j 27 = Blk w j 27 := fun _ => rfl
  have ne0 : fb ≠ g0 := Blk.ne_ hf h0.1 (by decide)
  have ne1 : fb ≠ g1 := Blk.ne_ hf h1.1 (by decide)
  have ne2 : fb ≠ g2 := Blk.ne_ hf h2.1 (by decide)
  have HF := Lib.hid hf
  have H0 := Lib.hid h0
  have H1 := Lib.hid h1
  have H2 := Lib.hid h2
  have f0 : w.cell? ⟨fb, 0, none⟩ = some (.func (.func 20) #[.pointer (some ⟨g0, 0, none⟩)] #[]) := by rw [hf.cell]; rfl
  clear hf h0 h1 h2 hfg
  have Z0 := Lib.hid z0
  clear z0
  have Z1 := Lib.hid z1
  clear z1
  have Z2 := Lib.hid z2
  clear z2
  go_enter Try.func23, Try.ntmps23
  go_wp2_with fail
  refine wp_loop_rounds 4 ?_
  rw [rounds_succ]
  go_wp2_with fail
  have C0 := (H0.out).code hS0 hn0
  rw [Z0.out] at C0
  have HC0 := Lib.hid C0
  clear C0
  refine (HC0.out).mono ?_
  intro e w1 hP
  obtain ⟨he, d0, ho0⟩ := hP
  obtain rfl : e = .returned (.int .i64 0) := he
  have H0 := Lib.hid d0
  have H1 := Lib.hid ((H1.out).keep ho0 (fun b hb1 hb2 h => by omega))
  have H2 := Lib.hid ((H2.out).keep ho0 (fun b hb1 hb2 h => by omega))
  have HF := Lib.hid (ho0.blk HF.out (fun h => by omega))
  have O0 : Hid (Only (fun b => b = g0 ∨ b = g1 ∨ b = g2) w w1) := Lib.hid ((Only.refl _ w).trans ho0 (fun _ _ h => by omega))
  have f1 : w1.cell? ⟨fb, 1, none⟩ = some (.func (.func 20) #[.pointer (some ⟨g1, 0, none⟩)] #[]) := by rw [HF.out.cell]; rfl
  clear f0 ho0 d0 HC0
  go_wp2_with fail
  rw [rounds_succ]
  go_wp2_with fail
  have C1 := (H1.out).code hS1 hn1
  rw [Z1.out] at C1
  have HC1 := Lib.hid C1
  clear C1
  refine (HC1.out).mono ?_
  intro e w2 hP
  obtain ⟨he, d1, ho1⟩ := hP
  obtain rfl : e = .returned (.int .i64 0) := he
  have H0 := Lib.hid ((H0.out).keep ho1 (fun b hb1 hb2 h => by omega))
  have H1 := Lib.hid d1
  have H2 := Lib.hid ((H2.out).keep ho1 (fun b hb1 hb2 h => by omega))
  have HF := Lib.hid (ho1.blk HF.out (fun h => by omega))
  have O1 : Hid (Only (fun b => b = g0 ∨ b = g1 ∨ b = g2) w w2) := Lib.hid ((O0.out).trans ho1 (fun _ _ h => by omega))
  have f2 : w2.cell? ⟨fb, 2, none⟩ = some (.func (.func 20) #[.pointer (some ⟨g2, 0, none⟩)] #[]) := by rw [HF.out.cell]; rfl
  clear f1 ho1 d1 HC1
  go_wp2_with fail
  rw [rounds_succ]
  go_wp2_with fail
  have C2 := (H2.out).code hS2 hn2
  rw [Z2.out] at C2
  have HC2 := Lib.hid C2
  clear C2
  refine (HC2.out).mono ?_
  intro e w3 hP
  obtain ⟨he, d2, ho2⟩ := hP
  obtain rfl : e = .returned (.int .i64 0) := he
  have H0 := Lib.hid ((H0.out).keep ho2 (fun b hb1 hb2 h => by omega))
  have H1 := Lib.hid ((H1.out).keep ho2 (fun b hb1 hb2 h => by omega))
  have H2 := Lib.hid d2
  have HF := Lib.hid (ho2.blk HF.out (fun h => by omega))
  have O2 : Hid (Only (fun b => b = g0 ∨ b = g1 ∨ b = g2) w w3) := Lib.hid ((O1.out).trans ho2 (fun _ _ h => by omega))
  clear f2 ho2 d2 HC2
  go_wp2_with fail
  rw [rounds_succ]
  go_wp2_with fail
  go_ret2
  exact ⟨rfl, H0.out, H1.out, H2.out, O2.out⟩
end Go.Proofs.Ytmmmhkpekaimeaa
