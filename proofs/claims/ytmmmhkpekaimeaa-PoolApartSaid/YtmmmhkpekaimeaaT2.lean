/- Steps that throw (layer 5): one, by the code and by the document. -/
import Derived.Test.YtmmmhkpekaimeaaT1
import Derived.Deep.RegionHeld3
import Derived.Deep.QuietTactic
import Derived.BigQuiet
import Derived.Deep.RegionWith
import Derived.RegionDies
import Derived.Laws.MakeOwn
set_option linter.unusedVariables false
namespace Go.Proofs.Ytmmmhkpekaimeaa
open Go.ChangeShapes Go.WideShapes Go.ChangeAt Go.RowKit
def thr (k wh cc at_ m : Int) : Option (Int × Int) := if k = 1 ∧ cc ≠ 0 then some (wh, cc) else if k = 2 then some (0, 1) else if k = 3 ∧ (at_ < 0 ∨ m ≤ at_) then some (0, 1) else none
theorem thr_1 (wh cc at_ m : Int) (h : cc ≠ 0) : thr 1 wh cc at_ m = some (wh, cc) := if_pos ⟨rfl, h⟩
theorem thr_10 (wh at_ m : Int) : thr 1 wh 0 at_ m = none := by unfold thr; simp
theorem thr_2 (wh cc at_ m : Int) : thr 2 wh cc at_ m = some (0, 1) := by unfold thr; simp
theorem thr_3 (wh cc at_ m : Int) (h : at_ < 0 ∨ m ≤ at_) : thr 3 wh cc at_ m = some (0, 1) := by unfold thr; simp; omega
theorem thr_30 (wh cc at_ m : Int) (h : 0 ≤ at_ ∧ at_ < m) : thr 3 wh cc at_ m = none := by unfold thr; simp; omega
theorem thr_0 (k wh cc at_ m : Int) (h1 : k ≠ 1) (h2 : k ≠ 2) (h3 : k ≠ 3) : thr k wh cc at_ m = none := by unfold thr; simp [h1, h2, h3]
set_option maxHeartbeats 1000000 in
theorem index_no (A : Option Addr) (n c : Nat) (at_ : Int) (h : at_ < 0 ∨ (n : Int) ≤ at_) (hn : n ≤ maxLen) (w : World) : Calls Try.prog 60 #[.slice A n c, .int .i64 at_] w fun e w' => e = Thr (some (0, 1)) ∧ w = w' := by
  unfold maxLen at hn
  rcases h with h | h
  · go_enter Try.func60, Try.ntmps60
    go_wp2_with fail
    refine (throw_yes 0 1 (by decide) _).mono ?_
    rintro e w' ⟨rfl, rfl⟩
    exact ⟨rfl, rfl, rfl⟩
  · have h0 : ¬ at_ < 0 := by omega
    go_enter Try.func60, Try.ntmps60
    go_wp2_with fail
    refine (throw_yes 0 1 (by decide) _).mono ?_
    rintro e w' ⟨rfl, rfl⟩
    exact ⟨rfl, rfl, rfl⟩
set_option maxHeartbeats 1000000 in
theorem index_yes (b n c k : Nat) (x : Int) (hk : k < n) (hn : n ≤ maxLen) (w : World) (hc : w.cell? ⟨b, k, none⟩ = some (.int .i64 x)) : Calls Try.prog 60 #[.slice (some ⟨b, 0, none⟩) n c, .int .i64 k] w fun e w' => e = .returned (.int .i64 x) ∧ w = w' := by
  unfold maxLen at hn
  go_enter Try.func60, Try.ntmps60
  go_wp2
  go_ret
  exact ⟨rfl, rfl⟩
def zc (M : Nat) : Array Value := madeCells #[.int .i64 0] M
theorem zc_get (M j : Nat) (h : j < M) : (zc M)[j]? = some (.int .i64 0) := by
  have h1 : (zc M).toList = List.replicate M (.int .i64 0) := toList_madeCells_one _ _
  rw [← Array.getElem?_toList, h1, List.getElem?_replicate, if_pos h]
theorem int_info5 : (Try.prog.info? 3).map (fun i => (i.zero, i.size, i.bytes)) = some (some (.int .i64 0), 1, 8) := by kernel_rfl
theorem make_zc (M : Nat) (h : M ≤ 1000) (W : World) : (Instr.makeSlice 45 (.int .i64 (M : Int)) (.int .i64 (M : Int))).run Try.prog W = .ok (.slice (some ⟨W.heap.size, 0, none⟩) M M) (W.alloc (.cells (zc M) 3)) := by
  obtain ⟨i0, hi0, hz0, hz1, hz2⟩ := info_parts int_info5
  have := run_make (P := Try.prog) W 45 3 i0 (.int .i64 0) Try.underlying45 hi0 hz0 .i64 .i64 M M (by omega) (Int.le_refl _) (by rw [hz2]; omega) (by omega)
  rw [this]
  simp only [Int.toNat_natCast, hz1, Nat.mul_one]
  rfl
def OneP (k wh cc at_ m : Int) (g : Nat) (cs : Array Value) (w : World) (e : Ending) (w' : World) : Prop := e = Thr (thr k wh cc at_ m) ∧ Blk w' g 27 cs ∧ Only (fun b => b = g) w w'
theorem OneP_of {k wh cc at_ m : Int} {g : Nat} {cs : Array Value} {w w' : World} {e : Ending} {o : Option (Int × Int)} (ho : thr k wh cc at_ m = o) (he : e = Thr o) (hb : Blk w g 27 cs) (h : Below w.heap.size w w') : OneP k wh cc at_ m g cs w e w' :=
  ⟨by rw [ho, he], hb.below h hb.lt, Only.of_below h⟩
set_option maxRecDepth 100000 in
set_option maxHeartbeats 4000000 in
theorem one_any (g n c M : Nat) (A : Option Addr) (d0 code k wh cc at_ m : Int) (w : World) (hb : Blk w g 27 #[.slice A n c, .int .i64 d0, .int .i64 code]) (hM : m = M) (hM2 : M ≤ 50) (hd : 0 ≤ d0 ∧ d0 ≤ 1000000) :
    Calls Try.prog 55 #[.pointer (some ⟨g, 0, none⟩), .agg #[.int .i64 k, .int .i64 wh, .int .i64 cc, .int .i64 at_, .int .i64 m]] w (OneP k wh cc at_ m g #[.slice A n c, .int .i64 d0, .int .i64 code] w) := by
  have HB := Lib.hid hb
  by_cases k1 : k = 1
  · subst k1
    by_cases c0 : cc = 0
    · subst c0
      clear hb hd
      go_enter Try.func55, Try.ntmps55
      go_wp2_with (go_at_call 75; refine (throw_no _ _).mono ?_; rintro e w' ⟨rfl, rfl⟩)
      go_end0
      exact OneP_of (thr_10 _ _ _) rfl HB.out (by repeat (first | with_reducible exact Below.refl _ _ | with_reducible assumption | with_reducible refine Below.setCell ?_ (by first | omega | (simp <;> omega)) _ | with_reducible refine below_drewN ?_ _ | with_reducible refine Below.drew ?_ | with_reducible refine Below.alloc ?_ (by first | omega | (simp <;> omega)) _))
    · have hc : ((cc : Int) != 0) = true := by rw [bne_iff_ne]; exact c0
      clear hb hd
      go_enter Try.func55, Try.ntmps55
      go_wp2_with fail
      refine (throw_yes _ _ hc _).mono ?_
      rintro e w' ⟨rfl, rfl⟩
      exact ⟨rfl, OneP_of (thr_1 _ _ _ _ c0) rfl HB.out (by repeat (first | with_reducible exact Below.refl _ _ | with_reducible assumption | with_reducible refine Below.setCell ?_ (by first | omega | (simp <;> omega)) _ | with_reducible refine below_drewN ?_ _ | with_reducible refine Below.drew ?_ | with_reducible refine Below.alloc ?_ (by first | omega | (simp <;> omega)) _))⟩
  by_cases k2 : k = 2
  · subst k2
    clear hb hd k1
    go_enter Try.func55, Try.ntmps55
    go_wp2_with fail
    refine (throw_yes _ _ (by decide) _).mono ?_
    rintro e w' ⟨rfl, rfl⟩
    exact ⟨rfl, OneP_of (thr_2 _ _ _ _) rfl HB.out (by repeat (first | with_reducible exact Below.refl _ _ | with_reducible assumption | with_reducible refine Below.setCell ?_ (by first | omega | (simp <;> omega)) _ | with_reducible refine below_drewN ?_ _ | with_reducible refine Below.drew ?_ | with_reducible refine Below.alloc ?_ (by first | omega | (simp <;> omega)) _))⟩
  by_cases k3 : k = 3
  · subst k3
    subst hM
    clear k1 k2
    have h1 : w.cell? ⟨g, 1, none⟩ = some (.int .i64 d0) := by rw [hb.cell]; rfl
    have hf : w.frozen? ⟨g, 1, none⟩ = false := hb.frozen 1
    have hgl := hb.lt
    have hmk : ∀ W : World, (Instr.makeSlice 45 (.int .i64 (M : Int)) (.int .i64 (M : Int))).run Try.prog W = .ok (.slice (some ⟨W.heap.size, 0, none⟩) M M) (W.alloc (.cells (zc M) 3)) := make_zc M (by omega)
    have hg1 : g ≠ w.heap.size := by omega
    clear hb
    by_cases hin : 0 ≤ at_ ∧ at_ < M
    · obtain ⟨i0, i1⟩ := hin
      obtain ⟨a, rfl⟩ := Int.eq_ofNat_of_zero_le i0
      have s1 : IntKind.i64.wrap (d0 + 0) = d0 := by rw [Int.add_zero]; exact IntWalk.i64_in _ (by omega)
      have s2 : IntKind.i64.wrap d0 = d0 := IntWalk.i64_in _ (by omega)
      have hz : ((w.alloc (.cells #[.int .i64 3, .int .i64 wh, .int .i64 cc, .int .i64 a, .int .i64 M] 94)).alloc (.cells (zc M) 3)).cell? ⟨w.heap.size + 1, a, none⟩ = some (.int .i64 0) := by
        have h := (Blk.new (w.alloc (.cells #[.int .i64 3, .int .i64 wh, .int .i64 cc, .int .i64 a, .int .i64 M] 94)) 3 (zc M)).cell a
        have hs : (w.alloc (.cells #[.int .i64 3, .int .i64 wh, .int .i64 cc, .int .i64 a, .int .i64 M] 94)).heap.size = w.heap.size + 1 := by simp
        rw [zc_get M a (by omega), hs] at h
        exact h
      have HZ := Lib.hid hz
      have HI := Lib.hid i1
      clear i0 i1 hd hz
      go_enter Try.func55, Try.ntmps55
      go_wp2_with fail
      go_region_held3 (fun w' => w'.cell? ⟨g, 1, none⟩ = some (.int .i64 d0) ∧ w'.frozen? ⟨g, 1, none⟩ = false ∧ w'.cell? ⟨w.heap.size, 3, none⟩ = some (.int .i64 a) ∧ w'.cell? ⟨w.heap.size, 4, none⟩ = some (.int .i64 M)) (((repeat' apply And.intro) <;> first | (go_keep; done) | (go_simp; done) | repeat (first | with_reducible exact Below.refl _ _ | with_reducible assumption | with_reducible refine Below.setCell ?_ (by first | omega | (simp <;> omega)) _ | with_reducible refine below_drewN ?_ _ | with_reducible refine Below.drew ?_ | with_reducible refine Below.alloc ?_ (by first | omega | (simp <;> omega)) _))) (first | (go_at_call 60; refine (index_yes _ M M a 0 (by have := HI.out; omega) (by simp [maxLen]; omega) _ ?_).mono ?_; (exact HZ.out); rintro e w' ⟨rfl, rfl⟩))
      go_end0
      have b1 : Blk (w.setCell ⟨g, 1, none⟩ (.int .i64 d0)) g 27 #[.slice A n c, .int .i64 d0, .int .i64 code] := HB.out.set_ 1 _
      exact ⟨by rw [thr_30 _ _ _ _ ⟨by omega, HI.out⟩]; rfl, (b1.alloc _).alloc _, ((((Only.refl (fun b => b = g) w).setCell (p := ⟨g, 1, none⟩) (.inr rfl) _).alloc _).alloc _).drew⟩
    · have hno : at_ < 0 ∨ (M : Int) ≤ at_ := by omega
      have HI := Lib.hid hno
      clear hin hno hd
      go_enter Try.func55, Try.ntmps55
      go_wp2_with fail
      go_region_dies
      all_goals
        refine (index_no _ M M at_ HI.out (by simp [maxLen]; omega) _).mono ?_
        rintro e w' ⟨rfl, rfl⟩
        exact ⟨rfl, OneP_of (thr_3 _ _ _ _ HI.out) rfl HB.out (by repeat (first | with_reducible exact Below.refl _ _ | with_reducible assumption | with_reducible refine Below.setCell ?_ (by first | omega | (simp <;> omega)) _ | with_reducible refine below_drewN ?_ _ | with_reducible refine Below.drew ?_ | with_reducible refine Below.alloc ?_ (by first | omega | (simp <;> omega)) _))⟩
  · have n1 : ((k : Int) == 1) = false := by rw [beq_eq_false_iff_ne]; exact k1
    have n2 : ((k : Int) == 2) = false := by rw [beq_eq_false_iff_ne]; exact k2
    have n3 : ((k : Int) == 3) = false := by rw [beq_eq_false_iff_ne]; exact k3
    have HT := Lib.hid (thr_0 k wh cc at_ m k1 k2 k3)
    clear hb hd hM k1 k2 k3
    go_enter Try.func55, Try.ntmps55
    go_wp2_with fail
    go_end0
    exact OneP_of HT.out rfl HB.out (by repeat (first | with_reducible exact Below.refl _ _ | with_reducible assumption | with_reducible refine Below.setCell ?_ (by first | omega | (simp <;> omega)) _ | with_reducible refine below_drewN ?_ _ | with_reducible refine Below.drew ?_ | with_reducible refine Below.alloc ?_ (by first | omega | (simp <;> omega)) _))
end Go.Proofs.Ytmmmhkpekaimeaa
