/- All steps done by a doer; the code that they come to (layer 5). -/
import Derived.Test.YtmmmhkpekaimeaaT3
set_option linter.unusedVariables false
namespace Go.Proofs.Ytmmmhkpekaimeaa
open Go.ChangeShapes Go.WideShapes Go.ChangeAt Go.RowKit
def okS (S : List Int) (n : Nat) : Prop := ∀ k, k < n → 0 ≤ S.getD (k * 5 + 4) 0 ∧ S.getD (k * 5 + 4) 0 ≤ 50
def dcells (A : Option Addr) (n c : Nat) (d code : Int) : Array Value := #[.slice A n c, .int .i64 d, .int .i64 code]
def AllE (S : List Int) (n g : Nat) (A : Option Addr) (c : Nat) (d0 code : Int) (w : World) (e : Ending) (w' : World) : Prop :=
  e = Thr (allGo S n 0).1 ∧ Blk w' g 27 (dcells A n c (d0 + ((allGo S n 0).2 : Int)) code) ∧ Only (fun b => b = g) w w'
set_option maxRecDepth 100000 in
set_option maxHeartbeats 4000000 in
theorem all_any (g n c B : Nat) (A : Option Addr) (d0 code : Int) (S : List Int) (w : World) (hb : Blk w g 27 (dcells A n c d0 code)) (hr : Reads w B 5 A n (iv S)) (hBg : B ≤ g) (hS : Hid (okS S n)) (hn : n ≤ 1000) (hd : 0 ≤ d0 ∧ d0 ≤ 1000) :
    Calls Try.prog 17 #[.pointer (some ⟨g, 0, none⟩)] w (AllE S n g A c d0 code w) := by
  obtain ⟨hd1, hd2⟩ := hd
  have hgl := hb.lt
  have HB := Lib.hid hb
  have HR := Lib.hid hr
  clear hb hr
  go_enter Try.func17, Try.ntmps17
  go_wp2_with fail
  go_loopg [2] n (fun q i wr => ∃ k : Nat, q = n - k ∧ k ≤ n ∧ i = .int .i64 k ∧ Hid (Blk wr g 27 (dcells A n c (d0 + (k : Int)) code)) ∧ Hid (Only (fun b => b = g) w wr) ∧ Hid (allGo S n 0 = allGo S (n - k) k))
  case atStart => exact ⟨0, rfl, by omega, rfl, by rw [show d0 + ((0 : Nat) : Int) = d0 by omega]; exact HB, Lib.hid (Only.refl _ _), Lib.hid rfl⟩
  case round =>
    obtain ⟨k, rfl, hk, rfl, bd, ho, hg⟩ := hrel
    have f0 : wr.cell? ⟨g, 0, none⟩ = some (.slice A n c) := by rw [bd.out.cell]; rfl
    by_cases hlt : k < n
    · obtain ⟨b, off, rfl, hbB, q0, q1, q2, q3, q4⟩ := reads5 (ho.out.reads HR.out (by omega) (fun i hi h => by omega)) hlt
      obtain ⟨m0, m1⟩ := hS.out k hlt
      obtain ⟨M, hM⟩ := Int.eq_ofNat_of_zero_le m0
      have hOne := fun (c' : Nat) => one_any g n c M (some ⟨b, off, none⟩) (d0 + (k : Int)) code (S.getD (k * 5) 0) (S.getD (k * 5 + 1) 0) (S.getD (k * 5 + 2) 0) (S.getD (k * 5 + 3) 0) (S.getD (k * 5 + 4) 0) wr bd.out hM (by omega) (by omega)
      have hT := hOne 0
      clear hOne
      have hgk := (hg.out).trans (allGo_step S n k hlt)
      have hth : thr (S.getD (k * 5) 0) (S.getD (k * 5 + 1) 0) (S.getD (k * 5 + 2) 0) (S.getD (k * 5 + 3) 0) (S.getD (k * 5 + 4) 0) = thrAt S k := rfl
      unfold OneP at hT
      rw [hth] at hT
      generalize thrAt S k = o at *
      have HK := Lib.hid hgk
      have HTT := Lib.hid hT
      clear hT hgk hth hg m0 m1 hM
      generalize S.getD (k * 5) 0 = s0 at *
      generalize S.getD (k * 5 + 1) 0 = s1 at *
      generalize S.getD (k * 5 + 2) 0 = s2 at *
      generalize S.getD (k * 5 + 3) 0 = s3 at *
      generalize S.getD (k * 5 + 4) 0 = s4 at *
      go_wp2_with fail
      refine (HTT.out).mono ?_
      intro e w1 hP
      obtain ⟨he, b1, ho1⟩ := hP
      match o, HK, he with
      | none, HK, he =>
        obtain rfl : e = .returned (.tuple #[]) := he
        have r1 : w1.cell? ⟨g, 1, none⟩ = some (.int .i64 (d0 + (k : Int))) := by rw [b1.cell]; rfl
        have r2 : w1.frozen? ⟨g, 1, none⟩ = false := b1.frozen 1
        have HB1 := Lib.hid b1
        have HO1 := Lib.hid (ho.out.trans ho1 (fun _ _ h => h))
        clear f0 q0 q1 q2 q3 q4 b1 ho1 ho bd HTT
        go_wp2_with fail
        go_roundg (n - (k + 1))
        case measure => omega
        case rel => exact ⟨k + 1, rfl, by omega, by go_num, Lib.hid (by have h := HB1.out.set_ 1 (.int .i64 (d0 + (k : Int) + 1)); rw [show d0 + ((k + 1 : Nat) : Int) = d0 + (k : Int) + 1 by omega]; exact h), Lib.hid (HO1.out.setCell (.inr rfl) _), HK⟩
      | some (a, cc), HK, he =>
        obtain rfl : e = .panicked [{ v := flt a cc, recovered := false }] := he
        exact ⟨rfl, by rw [HK.out]; rfl, by rw [HK.out]; exact b1, ho.out.trans ho1 (fun _ _ h => h)⟩
    · obtain rfl : k = n := by omega
      have hg0 := hg.out
      rw [Nat.sub_self] at hg0
      have HG := Lib.hid hg0
      clear hg hg0
      go_wp2_with fail
      go_end0
      exact ⟨by rw [HG.out]; rfl, by rw [HG.out]; exact bd.out, ho.out⟩
end Go.Proofs.Ytmmmhkpekaimeaa
