/- What is taken of a value and a code, and of a list (layer 5). -/
import Derived.Test.YtmmmhkpekaimeaaT7
set_option linter.unusedVariables false
namespace Go.Proofs.Ytmmmhkpekaimeaa
open Go.ChangeShapes Go.WideShapes Go.ChangeAt Go.RowKit
def oE (e : Int) : Option (Int × Int) := if e = 0 then none else some (0, e)
theorem oE_0 : oE 0 = none := rfl
theorem oE_1 {e : Int} (h : e ≠ 0) : oE e = some (0, e) := if_neg h
set_option maxHeartbeats 1000000 in
theorem must_ok (v : Int) (w : World) : Calls Try.prog 59 #[.int .i64 v, .int .i64 0] w fun e w' => e = .returned (.int .i64 v) ∧ w = w' := by
  go_enter Try.func59, Try.ntmps59
  go_wp2_with (go_at_call 75; refine (throw_no _ _).mono ?_; rintro e w' ⟨rfl, rfl⟩)
  go_ret
  exact ⟨rfl, rfl⟩
set_option maxHeartbeats 1000000 in
theorem must_no (v e : Int) (h : ((e : Int) != 0) = true) (w : World) : Calls Try.prog 59 #[.int .i64 v, .int .i64 e] w fun e' w' => e' = Thr (some (0, e)) ∧ w = w' := by
  go_enter Try.func59, Try.ntmps59
  go_wp2_with fail
  refine (throw_yes _ _ h _).mono ?_
  rintro e w' ⟨rfl, rfl⟩
  exact ⟨rfl, rfl, rfl⟩
set_option maxRecDepth 100000 in
set_option maxHeartbeats 4000000 in
theorem take_any (g n c : Nat) (A : Option Addr) (v e i : Int) (w : World) (hb : Blk w g 48 #[.int .i64 v, .int .i64 e, .slice A n c, .int .i64 i, .int .i64 v]) :
    Calls Try.prog 24 #[.pointer (some ⟨g, 0, none⟩)] w fun e' w' => e' = Thr (oE e) ∧ Blk w' g 48 #[.int .i64 v, .int .i64 e, .slice A n c, .int .i64 i, .int .i64 v] ∧ Only (fun b => b = g) w w' := by
  have q0 : w.cell? ⟨g, 0, none⟩ = some (.int .i64 v) := by rw [hb.cell]; rfl
  have q1 : w.cell? ⟨g, 1, none⟩ = some (.int .i64 e) := by rw [hb.cell]; rfl
  have q4 : w.cell? ⟨g, 4, none⟩ = some (.int .i64 v) := by rw [hb.cell]; rfl
  have f4 : w.frozen? ⟨g, 4, none⟩ = false := hb.frozen 4
  have HB := Lib.hid hb
  clear hb
  by_cases h : e = 0
  · subst h
    go_enter Try.func24, Try.ntmps24
    go_wp2_with fail
    go_region_held3 (fun w' => w'.cell? ⟨g, 0, none⟩ = some (.int .i64 v) ∧ w'.cell? ⟨g, 1, none⟩ = some (.int .i64 0) ∧ w'.cell? ⟨g, 4, none⟩ = some (.int .i64 v) ∧ w'.frozen? ⟨g, 4, none⟩ = false) ((repeat' apply And.intro) <;> first | (go_keep; done) | (go_simp; done)) (first | (go_at_call 59; refine (must_ok _ _).mono ?_; rintro e w' ⟨rfl, rfl⟩))
    go_end0
    exact ⟨rfl, (HB.out.set_ 4 (.int .i64 v)), ((Only.refl (fun b => b = g) w).setCell (p := ⟨g, 4, none⟩) (.inr rfl) _).drew⟩
  · have hn : ((e : Int) != 0) = true := by rw [bne_iff_ne]; exact h
    go_enter Try.func24, Try.ntmps24
    go_wp2_with fail
    go_region_dies
    all_goals
      refine (must_no _ _ hn _).mono ?_
      rintro e w' ⟨rfl, rfl⟩
      exact ⟨rfl, by rw [oE_1 h]; rfl, HB.out, (Only.refl _ w).drew⟩
def oI (n : Nat) (i : Int) : Option (Int × Int) := if 0 ≤ i ∧ i < n then none else some (0, 1)
theorem oI_0 {n k : Nat} (h : k < n) : oI n k = none := if_pos ⟨by omega, by omega⟩
theorem oI_1 {n : Nat} {i : Int} (h : i < 0 ∨ (n : Int) ≤ i) : oI n i = some (0, 1) := if_neg (by omega)
set_option maxRecDepth 100000 in
set_option maxHeartbeats 4000000 in
theorem idx_no (g n c : Nat) (A : Option Addr) (v e i out : Int) (w : World) (hb : Blk w g 48 #[.int .i64 v, .int .i64 e, .slice A n c, .int .i64 i, .int .i64 out]) (h : i < 0 ∨ (n : Int) ≤ i) (hn : n ≤ maxLen) :
    Calls Try.prog 25 #[.pointer (some ⟨g, 0, none⟩)] w fun e' w' => e' = Thr (some (0, 1)) ∧ Blk w' g 48 #[.int .i64 v, .int .i64 e, .slice A n c, .int .i64 i, .int .i64 out] ∧ Only (fun b => b = g) w w' := by
  have q2 : w.cell? ⟨g, 2, none⟩ = some (.slice A n c) := by rw [hb.cell]; rfl
  have q3 : w.cell? ⟨g, 3, none⟩ = some (.int .i64 i) := by rw [hb.cell]; rfl
  have HB := Lib.hid hb
  have HI := Lib.hid h
  have HM := Lib.hid hn
  clear hb h hn
  go_enter Try.func25, Try.ntmps25
  go_wp2_with fail
  go_region_dies
  all_goals
    refine (index_no _ _ _ _ HI.out HM.out _).mono ?_
    rintro e w' ⟨rfl, rfl⟩
    exact ⟨rfl, rfl, HB.out, (Only.refl _ w).drew⟩
set_option maxRecDepth 100000 in
set_option maxHeartbeats 4000000 in
theorem idx_yes (g n c b k : Nat) (v e out x : Int) (w : World) (hb : Blk w g 48 #[.int .i64 v, .int .i64 e, .slice (some ⟨b, 0, none⟩) n c, .int .i64 k, .int .i64 out]) (hk : k < n) (hn : n ≤ maxLen) (hx : w.cell? ⟨b, k, none⟩ = some (.int .i64 x)) :
    Calls Try.prog 25 #[.pointer (some ⟨g, 0, none⟩)] w fun e' w' => e' = Thr none ∧ Blk w' g 48 #[.int .i64 v, .int .i64 e, .slice (some ⟨b, 0, none⟩) n c, .int .i64 k, .int .i64 x] ∧ Only (fun b => b = g) w w' := by
  have q2 : w.cell? ⟨g, 2, none⟩ = some (.slice (some ⟨b, 0, none⟩) n c) := by rw [hb.cell]; rfl
  have q3 : w.cell? ⟨g, 3, none⟩ = some (.int .i64 k) := by rw [hb.cell]; rfl
  have q4 : w.cell? ⟨g, 4, none⟩ = some (.int .i64 out) := by rw [hb.cell]; rfl
  have f4 : w.frozen? ⟨g, 4, none⟩ = false := hb.frozen 4
  have HI : ∀ W : World, W.cell? ⟨b, k, none⟩ = some (.int .i64 x) → Calls Try.prog 60 #[.slice (some ⟨b, 0, none⟩) n c, .int .i64 k] W fun e w' => e = .returned (.int .i64 x) ∧ W = w' := fun W h => index_yes b n c k x hk hn W h
  have HII := Lib.hid HI
  have HX := Lib.hid hx
  have HB := Lib.hid hb
  clear hb HI hx hk hn
  go_enter Try.func25, Try.ntmps25
  go_wp2_with fail
  go_region_with (first | (go_at_call 60; refine (HII.out _ (by exact HX.out)).mono ?_; rintro e w' ⟨rfl, rfl⟩))
  all_goals
    go_end0
    exact ⟨rfl, (HB.out.set_ 4 (.int .i64 x)), ((Only.refl (fun b => b = g) w).setCell (p := ⟨g, 4, none⟩) (.inr rfl) _).drew⟩
end Go.Proofs.Ytmmmhkpekaimeaa
