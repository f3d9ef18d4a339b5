/- What is taken of any value and code, and of any list, is as the document says. No condition. -/
import Derived.Test.YtmmmhkpekaimeaaRows
import Derived.WalkKit
import Derived.ProofKit
import Derived.OpenShut
import Derived.ChangeOld
import Derived.Below
import Derived.Outline
import Derived.Lib.SmallJoins
import Derived.Test.YtmmmhkpekaimeaaT9
import Derived.Laws.OwnMore
import Derived.Deep.AppendLies
import Derived.Deep.DeepCutAuto
set_option linter.unusedVariables false
namespace Go.Proofs.Ytmmmhkpekaimeaa.trapMust
open Go.ChangeShapes Go.WideShapes Go.ChangeAt Go.RowKit Go.Joins

theorem own : ownKnob Try.prog.godebug = none := by kernel_rfl
theorem laidOut : laidOutB Try.prog = true := by kernel_rfl
theorem FD_below (w : World) : Below w.heap.size w (FD w) := ((Below.refl _ _).alloc (Nat.le_refl _) _).alloc (by simp) _
theorem caught_take (g n c : Nat) (A : Option Addr) (v e i : Int) (w : World) (hb : Blk w g 48 #[.int .i64 v, .int .i64 e, .slice A n c, .int .i64 i, .int .i64 v]) :
    Calls Try.prog 16 #[.func (.func 24) #[.pointer (some ⟨g, 0, none⟩)] #[]] w fun e' w' => e' = .returned (.tuple #[fval (oE e), .bool (oE e).isSome]) ∧ Blk w' g 48 #[.int .i64 v, .int .i64 e, .slice A n c, .int .i64 i, .int .i64 v] ∧ Only (fun b => b = g) w w' := by
  refine catch_frame 24 #[.pointer (some ⟨g, 0, none⟩)] #[] (fun args W => by kernel_rfl) (oE e) (fun w' => Blk w' g 48 #[.int .i64 v, .int .i64 e, .slice A n c, .int .i64 i, .int .i64 v]) (fun b => b = g) w (fun i h => by rw [h]; exact hb.lt) ?_ (fun w1 w' h1 h2 => h2.blk h1 (fun h => by have := hb.lt; omega))
  exact take_any g n c A v e i (FD w) ((FD_only (fun _ => False) w).blk hb (fun h => h))
theorem caught_no (g n c : Nat) (A : Option Addr) (v e i out : Int) (w : World) (hb : Blk w g 48 #[.int .i64 v, .int .i64 e, .slice A n c, .int .i64 i, .int .i64 out]) (h : i < 0 ∨ (n : Int) ≤ i) (hn : n ≤ maxLen) :
    Calls Try.prog 16 #[.func (.func 25) #[.pointer (some ⟨g, 0, none⟩)] #[]] w fun e' w' => e' = .returned (.tuple #[fval (some (0, 1)), .bool true]) ∧ Blk w' g 48 #[.int .i64 v, .int .i64 e, .slice A n c, .int .i64 i, .int .i64 out] ∧ Only (fun b => b = g) w w' := by
  refine catch_frame 25 #[.pointer (some ⟨g, 0, none⟩)] #[] (fun args W => by kernel_rfl) (some (0, 1)) (fun w' => Blk w' g 48 #[.int .i64 v, .int .i64 e, .slice A n c, .int .i64 i, .int .i64 out]) (fun b => b = g) w (fun i h => by rw [h]; exact hb.lt) ?_ (fun w1 w' h1 h2 => h2.blk h1 (fun h => by have := hb.lt; omega))
  exact idx_no g n c A v e i out (FD w) ((FD_only (fun _ => False) w).blk hb (fun h => h)) h hn
theorem caught_yes (g n c b k : Nat) (v e out x : Int) (w : World) (hb : Blk w g 48 #[.int .i64 v, .int .i64 e, .slice (some ⟨b, 0, none⟩) n c, .int .i64 k, .int .i64 out]) (hk : k < n) (hn : n ≤ maxLen) (hx : w.cell? ⟨b, k, none⟩ = some (.int .i64 x)) :
    Calls Try.prog 16 #[.func (.func 25) #[.pointer (some ⟨g, 0, none⟩)] #[]] w fun e' w' => e' = .returned (.tuple #[fval none, .bool false]) ∧ Blk w' g 48 #[.int .i64 v, .int .i64 e, .slice (some ⟨b, 0, none⟩) n c, .int .i64 k, .int .i64 x] ∧ Only (fun b => b = g) w w' := by
  refine catch_frame 25 #[.pointer (some ⟨g, 0, none⟩)] #[] (fun args W => by kernel_rfl) none (fun w' => Blk w' g 48 #[.int .i64 v, .int .i64 e, .slice (some ⟨b, 0, none⟩) n c, .int .i64 k, .int .i64 x]) (fun b => b = g) w (fun i h => by rw [h]; exact hb.lt) ?_ (fun w1 w' h1 h2 => h2.blk h1 (fun h => by have := hb.lt; omega))
  exact idx_yes g n c b k v e out x (FD w) ((FD_only (fun _ => False) w).blk hb (fun h => h)) hk hn (below_cell (FD_below w) hx)
theorem ne_fault (a c : Int) (W : World) : (binOp .neq 30 (.agg #[.int .i64 a, .int .i64 c]) (.agg #[.int .i64 a, .int .i64 c])).run Try.prog W = .ok (.bool false) W := by go_simp
theorem int_info9 : (Try.prog.info? 3).map (fun i => (i.zero, i.size, i.bytes)) = some (some (.int .i64 0), 1, 8) := by kernel_rfl
theorem only_cell {g : Nat} {w w' : World} {a : Addr} {v : Value} (h : Only (fun b => b = g) w w') (hc : w.cell? a = some v) (hl : a.block < w.heap.size) (hn : a.block ≠ g) : w'.cell? a = some v := by
  rw [← hc]; exact World.cell?_of_block (h.block _ hl hn)

set_option maxRecDepth 100000 in
set_option maxHeartbeats 8000000 in
theorem walk (a0 : Int) (a1 : Int) (A2 : Option Addr) (n2 c2 : Nat) (z2 : List Int) (w : World) (w0 : (Lit.int .i64 a0).wf = true) (w1 : (Lit.int .i64 a1).wf = true) (r2 : Reads w w.heap.size 1 A2 n2 (iv z2)) (o2 : okAll z2) (m2 : n2 ≤ c2 ∧ c2 ≤ maxLen) :
    Calls Try.prog 7 #[.int .i64 a0, .int .i64 a1, .slice A2 n2 c2] w fun e w' => e = .returned (.bool true) ∧ Below w.heap.size w w' := by
  obtain ⟨i0, hi0, hz0, hz1, hz2⟩ := info_parts int_info9
  obtain ⟨m1, m2⟩ := m2
  unfold maxLen at m2
  have hmf : ∀ (fn : Fn) (first cap : Array Value) (w : World), (Instr.makeFunc fn first cap).run Try.prog w = .ok (.func fn first cap) w := fun _ _ _ _ => rfl
  have hnf := ne_fault
  have heq : ∀ (x y : Int) (W : World), (binOp .eql 30 (.agg #[.int .i64 x, .int .i64 y]) (.agg #[.int .i64 x, .int .i64 y])).run Try.prog W = .ok (.bool true) W := fun x y W => by rw [eq_fault]; simp
  clear o2 w0 w1
  by_cases h50 : 50 < n2
  · have h50' : (50 : Int) < (n2 : Int) := by omega
    have hr := (r2.take 50 (by omega))
    have hr' := hr.alloc (Nat.le_refl _) (.cells #[] 3)
    have HR := Lib.hid hr
    have HR' := Lib.hid hr'
    clear hr hr' r2
    go_enter Try.func7, Try.ntmps7
    go_wp2_with (first
      | (at_builtin
         refine wpList_append_any _ rfl (.tmp 19) (.tmp 20) _ rfl w.heap.size 3 i0 _ 1 8 Try.underlying45 hi0 hz0 hz1 hz2 rfl (by omega) (.slice (some ⟨w.heap.size, 0, none⟩) 0 0) 0 [] rfl
           (own_new w 3 1) w.heap.size A2 50 c2 _ rfl HR'.out iv_one (by simp only [maxLen]; omega) (by omega) (by simp) ?_
         intro v1 w1 hown1 hg1 hat1
         simp only [Nat.zero_add, List.nil_append] at hown1
         obtain ⟨A1, c1, rfl, hr1⟩ := own_slice hown1
         have HO1 := Lib.hid hown1
         have HG1 := Lib.hid hg1
         clear hown1 hg1 hat1 hr1)
      | fail)
    have kb1 : Below w.heap.size w w1 := ((Below.refl _ _).alloc (Nat.le_refl _) _).grown HG1.out (by simp) (by simp [Value.ownBlock])
    have hdm := Blk.new w1 48 #[.int .i64 a0, .int .i64 a1, .slice A1 50 c1, .int .i64 a0, .int .i64 a0]
    have hom := HO1.out.alloc (.cells #[.int .i64 a0, .int .i64 a1, .slice A1 50 c1, .int .i64 a0, .int .i64 a0] 48)
    have hrm := (HR.out.below kb1).alloc kb1.size (.cells #[.int .i64 a0, .int .i64 a1, .slice A1 50 c1, .int .i64 a0, .int .i64 a0] 48)
    have kbm : Below w.heap.size w (w1.alloc (.cells #[.int .i64 a0, .int .i64 a1, .slice A1 50 c1, .int .i64 a0, .int .i64 a0] 48)) := kb1.alloc kb1.size _
    have hgw : w.heap.size ≤ w1.heap.size := kb1.size
    have HL2 := Lib.hid (fun b hb => (HO1.out.lt b hb).2 : ∀ b, (Value.slice A1 50 c1).ownBlock = some b → b < w1.heap.size)
    obtain ⟨g, hg⟩ : ∃ g, w1.heap.size = g := ⟨_, rfl⟩
    have HG := Lib.hid hg
    clear hg
    refine (lives5 _).mono ?_
    rintro e w2 ⟨rfl, hb2⟩
    have hd2 := hdm.below hb2 hdm.lt
    have HO := Lib.hid ((Only.of_below (S := fun _ => False) hb2).own hom (fun _ _ h => h))
    have HRL := Lib.hid (hrm.below (hb2.mono kbm.size))
    have kb2 : Below w.heap.size w w2 := kbm.trans (hb2.mono kbm.size)
    rw [HG.out] at hd2 hgw HL2
    rw [HG.out]
    have zz2 := hd2.lt
    have h3 := caught_take g 50 c1 A1 a0 a1 a0 w2 hd2
    have H3 := Lib.hid h3
    clear h3 hd2 hdm hom hrm kbm kb1 hb2 HO1 HG1 HR HR' HG
    go_wp2_with fail
    refine (H3.out).mono ?_
    intro e w3 hP
    obtain ⟨he, hd3, ho3⟩ := hP
    have kb3 : Below w.heap.size w w3 := kb2.trans (ho3.below kb2.size (fun i hi h => by omega))
    clear H3
    by_cases hz : a1 = 0
    · subst hz
      by_cases c1' : a0 < 0
      · skip
        have hcase : a0 < 0 ∨ (50 : Int) ≤ a0 := .inl c1'
        obtain rfl : e = .returned (.tuple #[.agg #[.int .i64 0, .int .i64 0], .bool false]) := he
        have hz3 : (w3.alloc (.cells #[.int .i64 0, .int .i64 0] 30)).heap.size = w3.heap.size + 1 := by simp
        have hd3' := hd3.alloc (.cells #[.int .i64 0, .int .i64 0] 30)
        have kb3' : Below w.heap.size w (w3.alloc (.cells #[.int .i64 0, .int .i64 0] 30)) := kb3.alloc kb3.size _
        have z3 : g < w3.heap.size := hd3.lt
        have e4' : w3.cell? ⟨g, 4, none⟩ = some (.int .i64 a0) := by rw [hd3.cell]; rfl
        have HD3 := Lib.hid hd3'
        clear hd3 hd3'
        have h5 := caught_no g 50 c1 A1 a0 0 a0 a0 _ HD3.out hcase (by simp only [maxLen]; omega)
        have H5 := Lib.hid h5
        clear h5 hcase
        go_wp2_with fail
        refine (H5.out).mono ?_
        intro e w4 hP
        obtain ⟨he, hd4, ho4⟩ := hP
        obtain rfl : e = .returned (.tuple #[.agg #[.int .i64 0, .int .i64 1], .bool true]) := he
        have kb4 : Below w.heap.size w w4 := kb3'.trans (ho4.below kb3'.size (fun i hi h => by omega))
        have e5 : w4.cell? ⟨g, 4, none⟩ = some (.int .i64 a0) := by rw [hd4.cell]; rfl
        have z4 := hd4.lt
        clear hd4 ho4 H5 HD3 e4'
        go_wp2_with fail
        go_ret
        exact ⟨rfl, kb4.alloc kb4.size _⟩
      by_cases c2' : (50 : Int) ≤ a0
      · skip
        have hcase : a0 < 0 ∨ (50 : Int) ≤ a0 := .inr c2'
        obtain rfl : e = .returned (.tuple #[.agg #[.int .i64 0, .int .i64 0], .bool false]) := he
        have hz3 : (w3.alloc (.cells #[.int .i64 0, .int .i64 0] 30)).heap.size = w3.heap.size + 1 := by simp
        have hd3' := hd3.alloc (.cells #[.int .i64 0, .int .i64 0] 30)
        have kb3' : Below w.heap.size w (w3.alloc (.cells #[.int .i64 0, .int .i64 0] 30)) := kb3.alloc kb3.size _
        have z3 : g < w3.heap.size := hd3.lt
        have e4' : w3.cell? ⟨g, 4, none⟩ = some (.int .i64 a0) := by rw [hd3.cell]; rfl
        have HD3 := Lib.hid hd3'
        clear hd3 hd3'
        have h5 := caught_no g 50 c1 A1 a0 0 a0 a0 _ HD3.out hcase (by simp only [maxLen]; omega)
        have H5 := Lib.hid h5
        clear h5 hcase
        go_wp2_with fail
        refine (H5.out).mono ?_
        intro e w4 hP
        obtain ⟨he, hd4, ho4⟩ := hP
        obtain rfl : e = .returned (.tuple #[.agg #[.int .i64 0, .int .i64 1], .bool true]) := he
        have kb4 : Below w.heap.size w w4 := kb3'.trans (ho4.below kb3'.size (fun i hi h => by omega))
        have e5 : w4.cell? ⟨g, 4, none⟩ = some (.int .i64 a0) := by rw [hd4.cell]; rfl
        have z4 := hd4.lt
        clear hd4 ho4 H5 HD3 e4'
        go_wp2_with fail
        go_ret
        exact ⟨rfl, kb4.alloc kb4.size _⟩
      · skip
        obtain ⟨k, rfl⟩ := Int.eq_ofNat_of_zero_le (by omega : 0 ≤ a0)
        have hkm : k < 50 := by omega
        obtain ⟨b1, cc1, hv1, hb1b, hb1l⟩ := HO.out.form (by omega)
        cases hv1
        have hb1g : b1 < g := HL2.out b1 rfl
        have hx := HO.out.cellAt k (by omega)
        rw [iv_get (by have := HRL.out.len; omega)] at hx
        obtain ⟨bp, off, rfl, hbp, hcp⟩ := reads_cell HRL.out hkm
        generalize (z2.take 50).getD k 0 = x at *
        have x2 := hx
        have p2 := hcp
        have zc2 := kb2.size
        have x3 := only_cell ho3 x2 (by show b1 < _; omega) (by show b1 ≠ g; omega)
        have p3 := only_cell ho3 p2 (by show bp < _; omega) (by show bp ≠ g; omega)
        obtain rfl : e = .returned (.tuple #[.agg #[.int .i64 0, .int .i64 0], .bool false]) := he
        have hz3 : (w3.alloc (.cells #[.int .i64 0, .int .i64 0] 30)).heap.size = w3.heap.size + 1 := by simp
        have hd3' := hd3.alloc (.cells #[.int .i64 0, .int .i64 0] 30)
        have kb3' : Below w.heap.size w (w3.alloc (.cells #[.int .i64 0, .int .i64 0] 30)) := kb3.alloc kb3.size _
        have z3 : g < w3.heap.size := hd3.lt
        have e4' : w3.cell? ⟨g, 4, none⟩ = some (.int .i64 (k : Int)) := by rw [hd3.cell]; rfl
        have HD3 := Lib.hid hd3'
        clear hd3 hd3'
        have zw3 := ho3.size
        have x3' : (w3.alloc (.cells #[.int .i64 0, .int .i64 0] 30)).cell? ⟨b1, k, none⟩ = some (.int .i64 x) := below_cell ((Below.refl w3.heap.size w3).alloc (Nat.le_refl _) _) x3
        have p3' : (w3.alloc (.cells #[.int .i64 0, .int .i64 0] 30)).cell? ⟨bp, off + k, none⟩ = some (.int .i64 x) := below_cell ((Below.refl w3.heap.size w3).alloc (Nat.le_refl _) _) p3
        have h5 := caught_yes g 50 c1 b1 k (k : Int) 0 (k : Int) x _ HD3.out hkm (by simp only [maxLen]; omega) x3'
        have H5 := Lib.hid h5
        have hkm' : (k : Int) < (50 : Int) := by omega
        clear h5 hcp hx x2 p2 x3 p3 x3'
        go_wp2_with fail
        refine (H5.out).mono ?_
        intro e w4 hP
        obtain ⟨he, hd4, ho4⟩ := hP
        obtain rfl : e = .returned (.tuple #[.agg #[.int .i64 0, .int .i64 0], .bool false]) := he
        have kb4 : Below w.heap.size w w4 := kb3'.trans (ho4.below kb3'.size (fun i hi h => by omega))
        have p4 := only_cell ho4 p3' (by show bp < _; rw [hz3]; omega) (by show bp ≠ g; omega)
        have e5 : w4.cell? ⟨g, 4, none⟩ = some (.int .i64 x) := by rw [hd4.cell]; rfl
        have z4 := hd4.lt
        have z5 : bp < w4.heap.size := by omega
        clear hd4 ho4 H5 HD3 e4' p3'
        go_wp2_with fail
        go_quiet (fail)
        go_wp2_with fail
        go_ret
        exact ⟨rfl, below_drewN (kb4.alloc kb4.size _) _⟩
    · have hn : ((a1 : Int) != 0) = true := by rw [bne_iff_ne]; exact hz
      have hoe : oE a1 = some (0, a1) := oE_1 hz
      rw [hoe] at he
      clear hoe hz
      by_cases c1' : a0 < 0
      · skip
        have hcase : a0 < 0 ∨ (50 : Int) ≤ a0 := .inl c1'
        obtain rfl : e = .returned (.tuple #[.agg #[.int .i64 0, .int .i64 a1], .bool true]) := he
        have hz3 : (w3.alloc (.cells #[.int .i64 0, .int .i64 a1] 30)).heap.size = w3.heap.size + 1 := by simp
        have hd3' := hd3.alloc (.cells #[.int .i64 0, .int .i64 a1] 30)
        have kb3' : Below w.heap.size w (w3.alloc (.cells #[.int .i64 0, .int .i64 a1] 30)) := kb3.alloc kb3.size _
        have z3 : g < w3.heap.size := hd3.lt
        have e4' : w3.cell? ⟨g, 4, none⟩ = some (.int .i64 a0) := by rw [hd3.cell]; rfl
        have HD3 := Lib.hid hd3'
        clear hd3 hd3'
        have h5 := caught_no g 50 c1 A1 a0 a1 a0 a0 _ HD3.out hcase (by simp only [maxLen]; omega)
        have H5 := Lib.hid h5
        clear h5 hcase
        go_wp2_with fail
        refine (H5.out).mono ?_
        intro e w4 hP
        obtain ⟨he, hd4, ho4⟩ := hP
        obtain rfl : e = .returned (.tuple #[.agg #[.int .i64 0, .int .i64 1], .bool true]) := he
        have kb4 : Below w.heap.size w w4 := kb3'.trans (ho4.below kb3'.size (fun i hi h => by omega))
        have e5 : w4.cell? ⟨g, 4, none⟩ = some (.int .i64 a0) := by rw [hd4.cell]; rfl
        have z4 := hd4.lt
        clear hd4 ho4 H5 HD3 e4'
        go_wp2_with fail
        go_ret
        exact ⟨rfl, kb4.alloc kb4.size _⟩
      by_cases c2' : (50 : Int) ≤ a0
      · skip
        have hcase : a0 < 0 ∨ (50 : Int) ≤ a0 := .inr c2'
        obtain rfl : e = .returned (.tuple #[.agg #[.int .i64 0, .int .i64 a1], .bool true]) := he
        have hz3 : (w3.alloc (.cells #[.int .i64 0, .int .i64 a1] 30)).heap.size = w3.heap.size + 1 := by simp
        have hd3' := hd3.alloc (.cells #[.int .i64 0, .int .i64 a1] 30)
        have kb3' : Below w.heap.size w (w3.alloc (.cells #[.int .i64 0, .int .i64 a1] 30)) := kb3.alloc kb3.size _
        have z3 : g < w3.heap.size := hd3.lt
        have e4' : w3.cell? ⟨g, 4, none⟩ = some (.int .i64 a0) := by rw [hd3.cell]; rfl
        have HD3 := Lib.hid hd3'
        clear hd3 hd3'
        have h5 := caught_no g 50 c1 A1 a0 a1 a0 a0 _ HD3.out hcase (by simp only [maxLen]; omega)
        have H5 := Lib.hid h5
        clear h5 hcase
        go_wp2_with fail
        refine (H5.out).mono ?_
        intro e w4 hP
        obtain ⟨he, hd4, ho4⟩ := hP
        obtain rfl : e = .returned (.tuple #[.agg #[.int .i64 0, .int .i64 1], .bool true]) := he
        have kb4 : Below w.heap.size w w4 := kb3'.trans (ho4.below kb3'.size (fun i hi h => by omega))
        have e5 : w4.cell? ⟨g, 4, none⟩ = some (.int .i64 a0) := by rw [hd4.cell]; rfl
        have z4 := hd4.lt
        clear hd4 ho4 H5 HD3 e4'
        go_wp2_with fail
        go_ret
        exact ⟨rfl, kb4.alloc kb4.size _⟩
      · skip
        obtain ⟨k, rfl⟩ := Int.eq_ofNat_of_zero_le (by omega : 0 ≤ a0)
        have hkm : k < 50 := by omega
        obtain ⟨b1, cc1, hv1, hb1b, hb1l⟩ := HO.out.form (by omega)
        cases hv1
        have hb1g : b1 < g := HL2.out b1 rfl
        have hx := HO.out.cellAt k (by omega)
        rw [iv_get (by have := HRL.out.len; omega)] at hx
        obtain ⟨bp, off, rfl, hbp, hcp⟩ := reads_cell HRL.out hkm
        generalize (z2.take 50).getD k 0 = x at *
        have x2 := hx
        have p2 := hcp
        have zc2 := kb2.size
        have x3 := only_cell ho3 x2 (by show b1 < _; omega) (by show b1 ≠ g; omega)
        have p3 := only_cell ho3 p2 (by show bp < _; omega) (by show bp ≠ g; omega)
        obtain rfl : e = .returned (.tuple #[.agg #[.int .i64 0, .int .i64 a1], .bool true]) := he
        have hz3 : (w3.alloc (.cells #[.int .i64 0, .int .i64 a1] 30)).heap.size = w3.heap.size + 1 := by simp
        have hd3' := hd3.alloc (.cells #[.int .i64 0, .int .i64 a1] 30)
        have kb3' : Below w.heap.size w (w3.alloc (.cells #[.int .i64 0, .int .i64 a1] 30)) := kb3.alloc kb3.size _
        have z3 : g < w3.heap.size := hd3.lt
        have e4' : w3.cell? ⟨g, 4, none⟩ = some (.int .i64 (k : Int)) := by rw [hd3.cell]; rfl
        have HD3 := Lib.hid hd3'
        clear hd3 hd3'
        have zw3 := ho3.size
        have x3' : (w3.alloc (.cells #[.int .i64 0, .int .i64 a1] 30)).cell? ⟨b1, k, none⟩ = some (.int .i64 x) := below_cell ((Below.refl w3.heap.size w3).alloc (Nat.le_refl _) _) x3
        have p3' : (w3.alloc (.cells #[.int .i64 0, .int .i64 a1] 30)).cell? ⟨bp, off + k, none⟩ = some (.int .i64 x) := below_cell ((Below.refl w3.heap.size w3).alloc (Nat.le_refl _) _) p3
        have h5 := caught_yes g 50 c1 b1 k (k : Int) a1 (k : Int) x _ HD3.out hkm (by simp only [maxLen]; omega) x3'
        have H5 := Lib.hid h5
        have hkm' : (k : Int) < (50 : Int) := by omega
        clear h5 hcp hx x2 p2 x3 p3 x3'
        go_wp2_with fail
        refine (H5.out).mono ?_
        intro e w4 hP
        obtain ⟨he, hd4, ho4⟩ := hP
        obtain rfl : e = .returned (.tuple #[.agg #[.int .i64 0, .int .i64 0], .bool false]) := he
        have kb4 : Below w.heap.size w w4 := kb3'.trans (ho4.below kb3'.size (fun i hi h => by omega))
        have p4 := only_cell ho4 p3' (by show bp < _; rw [hz3]; omega) (by show bp ≠ g; omega)
        have e5 : w4.cell? ⟨g, 4, none⟩ = some (.int .i64 x) := by rw [hd4.cell]; rfl
        have z4 := hd4.lt
        have z5 : bp < w4.heap.size := by omega
        clear hd4 ho4 H5 HD3 e4' p3'
        go_wp2_with fail
        go_quiet (fail)
        go_wp2_with fail
        go_ret
        exact ⟨rfl, below_drewN (kb4.alloc kb4.size _) _⟩
  · have h50' : ¬ (50 : Int) < (n2 : Int) := by omega
    have hr := r2
    have hr' := hr.alloc (Nat.le_refl _) (.cells #[] 3)
    have HR := Lib.hid hr
    have HR' := Lib.hid hr'
    clear hr hr' r2
    go_enter Try.func7, Try.ntmps7
    go_wp2_with (first
      | (at_builtin
         refine wpList_append_any _ rfl (.tmp 19) (.tmp 20) _ rfl w.heap.size 3 i0 _ 1 8 Try.underlying45 hi0 hz0 hz1 hz2 rfl (by omega) (.slice (some ⟨w.heap.size, 0, none⟩) 0 0) 0 [] rfl
           (own_new w 3 1) w.heap.size A2 n2 c2 _ rfl HR'.out iv_one (by simp only [maxLen]; omega) (by omega) (by simp) ?_
         intro v1 w1 hown1 hg1 hat1
         simp only [Nat.zero_add, List.nil_append] at hown1
         obtain ⟨A1, c1, rfl, hr1⟩ := own_slice hown1
         have HO1 := Lib.hid hown1
         have HG1 := Lib.hid hg1
         clear hown1 hg1 hat1 hr1)
      | fail)
    have kb1 : Below w.heap.size w w1 := ((Below.refl _ _).alloc (Nat.le_refl _) _).grown HG1.out (by simp) (by simp [Value.ownBlock])
    have hdm := Blk.new w1 48 #[.int .i64 a0, .int .i64 a1, .slice A1 n2 c1, .int .i64 a0, .int .i64 a0]
    have hom := HO1.out.alloc (.cells #[.int .i64 a0, .int .i64 a1, .slice A1 n2 c1, .int .i64 a0, .int .i64 a0] 48)
    have hrm := (HR.out.below kb1).alloc kb1.size (.cells #[.int .i64 a0, .int .i64 a1, .slice A1 n2 c1, .int .i64 a0, .int .i64 a0] 48)
    have kbm : Below w.heap.size w (w1.alloc (.cells #[.int .i64 a0, .int .i64 a1, .slice A1 n2 c1, .int .i64 a0, .int .i64 a0] 48)) := kb1.alloc kb1.size _
    have hgw : w.heap.size ≤ w1.heap.size := kb1.size
    have HL2 := Lib.hid (fun b hb => (HO1.out.lt b hb).2 : ∀ b, (Value.slice A1 n2 c1).ownBlock = some b → b < w1.heap.size)
    obtain ⟨g, hg⟩ : ∃ g, w1.heap.size = g := ⟨_, rfl⟩
    have HG := Lib.hid hg
    clear hg
    refine (lives5 _).mono ?_
    rintro e w2 ⟨rfl, hb2⟩
    have hd2 := hdm.below hb2 hdm.lt
    have HO := Lib.hid ((Only.of_below (S := fun _ => False) hb2).own hom (fun _ _ h => h))
    have HRL := Lib.hid (hrm.below (hb2.mono kbm.size))
    have kb2 : Below w.heap.size w w2 := kbm.trans (hb2.mono kbm.size)
    rw [HG.out] at hd2 hgw HL2
    rw [HG.out]
    have zz2 := hd2.lt
    have h3 := caught_take g n2 c1 A1 a0 a1 a0 w2 hd2
    have H3 := Lib.hid h3
    clear h3 hd2 hdm hom hrm kbm kb1 hb2 HO1 HG1 HR HR' HG
    go_wp2_with fail
    refine (H3.out).mono ?_
    intro e w3 hP
    obtain ⟨he, hd3, ho3⟩ := hP
    have kb3 : Below w.heap.size w w3 := kb2.trans (ho3.below kb2.size (fun i hi h => by omega))
    clear H3
    by_cases hz : a1 = 0
    · subst hz
      by_cases c1' : a0 < 0
      · skip
        have hcase : a0 < 0 ∨ (n2 : Int) ≤ a0 := .inl c1'
        obtain rfl : e = .returned (.tuple #[.agg #[.int .i64 0, .int .i64 0], .bool false]) := he
        have hz3 : (w3.alloc (.cells #[.int .i64 0, .int .i64 0] 30)).heap.size = w3.heap.size + 1 := by simp
        have hd3' := hd3.alloc (.cells #[.int .i64 0, .int .i64 0] 30)
        have kb3' : Below w.heap.size w (w3.alloc (.cells #[.int .i64 0, .int .i64 0] 30)) := kb3.alloc kb3.size _
        have z3 : g < w3.heap.size := hd3.lt
        have e4' : w3.cell? ⟨g, 4, none⟩ = some (.int .i64 a0) := by rw [hd3.cell]; rfl
        have HD3 := Lib.hid hd3'
        clear hd3 hd3'
        have h5 := caught_no g n2 c1 A1 a0 0 a0 a0 _ HD3.out hcase (by simp only [maxLen]; omega)
        have H5 := Lib.hid h5
        clear h5 hcase
        go_wp2_with fail
        refine (H5.out).mono ?_
        intro e w4 hP
        obtain ⟨he, hd4, ho4⟩ := hP
        obtain rfl : e = .returned (.tuple #[.agg #[.int .i64 0, .int .i64 1], .bool true]) := he
        have kb4 : Below w.heap.size w w4 := kb3'.trans (ho4.below kb3'.size (fun i hi h => by omega))
        have e5 : w4.cell? ⟨g, 4, none⟩ = some (.int .i64 a0) := by rw [hd4.cell]; rfl
        have z4 := hd4.lt
        clear hd4 ho4 H5 HD3 e4'
        go_wp2_with fail
        go_ret
        exact ⟨rfl, kb4.alloc kb4.size _⟩
      by_cases c2' : (n2 : Int) ≤ a0
      · skip
        have hcase : a0 < 0 ∨ (n2 : Int) ≤ a0 := .inr c2'
        obtain rfl : e = .returned (.tuple #[.agg #[.int .i64 0, .int .i64 0], .bool false]) := he
        have hz3 : (w3.alloc (.cells #[.int .i64 0, .int .i64 0] 30)).heap.size = w3.heap.size + 1 := by simp
        have hd3' := hd3.alloc (.cells #[.int .i64 0, .int .i64 0] 30)
        have kb3' : Below w.heap.size w (w3.alloc (.cells #[.int .i64 0, .int .i64 0] 30)) := kb3.alloc kb3.size _
        have z3 : g < w3.heap.size := hd3.lt
        have e4' : w3.cell? ⟨g, 4, none⟩ = some (.int .i64 a0) := by rw [hd3.cell]; rfl
        have HD3 := Lib.hid hd3'
        clear hd3 hd3'
        have h5 := caught_no g n2 c1 A1 a0 0 a0 a0 _ HD3.out hcase (by simp only [maxLen]; omega)
        have H5 := Lib.hid h5
        clear h5 hcase
        go_wp2_with fail
        refine (H5.out).mono ?_
        intro e w4 hP
        obtain ⟨he, hd4, ho4⟩ := hP
        obtain rfl : e = .returned (.tuple #[.agg #[.int .i64 0, .int .i64 1], .bool true]) := he
        have kb4 : Below w.heap.size w w4 := kb3'.trans (ho4.below kb3'.size (fun i hi h => by omega))
        have e5 : w4.cell? ⟨g, 4, none⟩ = some (.int .i64 a0) := by rw [hd4.cell]; rfl
        have z4 := hd4.lt
        clear hd4 ho4 H5 HD3 e4'
        go_wp2_with fail
        go_ret
        exact ⟨rfl, kb4.alloc kb4.size _⟩
      · skip
        obtain ⟨k, rfl⟩ := Int.eq_ofNat_of_zero_le (by omega : 0 ≤ a0)
        have hkm : k < n2 := by omega
        obtain ⟨b1, cc1, hv1, hb1b, hb1l⟩ := HO.out.form (by omega)
        cases hv1
        have hb1g : b1 < g := HL2.out b1 rfl
        have hx := HO.out.cellAt k (by omega)
        rw [iv_get (by have := HRL.out.len; omega)] at hx
        obtain ⟨bp, off, rfl, hbp, hcp⟩ := reads_cell HRL.out hkm
        generalize (z2).getD k 0 = x at *
        have x2 := hx
        have p2 := hcp
        have zc2 := kb2.size
        have x3 := only_cell ho3 x2 (by show b1 < _; omega) (by show b1 ≠ g; omega)
        have p3 := only_cell ho3 p2 (by show bp < _; omega) (by show bp ≠ g; omega)
        obtain rfl : e = .returned (.tuple #[.agg #[.int .i64 0, .int .i64 0], .bool false]) := he
        have hz3 : (w3.alloc (.cells #[.int .i64 0, .int .i64 0] 30)).heap.size = w3.heap.size + 1 := by simp
        have hd3' := hd3.alloc (.cells #[.int .i64 0, .int .i64 0] 30)
        have kb3' : Below w.heap.size w (w3.alloc (.cells #[.int .i64 0, .int .i64 0] 30)) := kb3.alloc kb3.size _
        have z3 : g < w3.heap.size := hd3.lt
        have e4' : w3.cell? ⟨g, 4, none⟩ = some (.int .i64 (k : Int)) := by rw [hd3.cell]; rfl
        have HD3 := Lib.hid hd3'
        clear hd3 hd3'
        have zw3 := ho3.size
        have x3' : (w3.alloc (.cells #[.int .i64 0, .int .i64 0] 30)).cell? ⟨b1, k, none⟩ = some (.int .i64 x) := below_cell ((Below.refl w3.heap.size w3).alloc (Nat.le_refl _) _) x3
        have p3' : (w3.alloc (.cells #[.int .i64 0, .int .i64 0] 30)).cell? ⟨bp, off + k, none⟩ = some (.int .i64 x) := below_cell ((Below.refl w3.heap.size w3).alloc (Nat.le_refl _) _) p3
        have h5 := caught_yes g n2 c1 b1 k (k : Int) 0 (k : Int) x _ HD3.out hkm (by simp only [maxLen]; omega) x3'
        have H5 := Lib.hid h5
        have hkm' : (k : Int) < (n2 : Int) := by omega
        clear h5 hcp hx x2 p2 x3 p3 x3'
        go_wp2_with fail
        refine (H5.out).mono ?_
        intro e w4 hP
        obtain ⟨he, hd4, ho4⟩ := hP
        obtain rfl : e = .returned (.tuple #[.agg #[.int .i64 0, .int .i64 0], .bool false]) := he
        have kb4 : Below w.heap.size w w4 := kb3'.trans (ho4.below kb3'.size (fun i hi h => by omega))
        have p4 := only_cell ho4 p3' (by show bp < _; rw [hz3]; omega) (by show bp ≠ g; omega)
        have e5 : w4.cell? ⟨g, 4, none⟩ = some (.int .i64 x) := by rw [hd4.cell]; rfl
        have z4 := hd4.lt
        have z5 : bp < w4.heap.size := by omega
        clear hd4 ho4 H5 HD3 e4' p3'
        go_wp2_with fail
        go_quiet (fail)
        go_wp2_with fail
        go_ret
        exact ⟨rfl, below_drewN (kb4.alloc kb4.size _) _⟩
    · have hn : ((a1 : Int) != 0) = true := by rw [bne_iff_ne]; exact hz
      have hoe : oE a1 = some (0, a1) := oE_1 hz
      rw [hoe] at he
      clear hoe hz
      by_cases c1' : a0 < 0
      · skip
        have hcase : a0 < 0 ∨ (n2 : Int) ≤ a0 := .inl c1'
        obtain rfl : e = .returned (.tuple #[.agg #[.int .i64 0, .int .i64 a1], .bool true]) := he
        have hz3 : (w3.alloc (.cells #[.int .i64 0, .int .i64 a1] 30)).heap.size = w3.heap.size + 1 := by simp
        have hd3' := hd3.alloc (.cells #[.int .i64 0, .int .i64 a1] 30)
        have kb3' : Below w.heap.size w (w3.alloc (.cells #[.int .i64 0, .int .i64 a1] 30)) := kb3.alloc kb3.size _
        have z3 : g < w3.heap.size := hd3.lt
        have e4' : w3.cell? ⟨g, 4, none⟩ = some (.int .i64 a0) := by rw [hd3.cell]; rfl
        have HD3 := Lib.hid hd3'
        clear hd3 hd3'
        have h5 := caught_no g n2 c1 A1 a0 a1 a0 a0 _ HD3.out hcase (by simp only [maxLen]; omega)
        have H5 := Lib.hid h5
        clear h5 hcase
        go_wp2_with fail
        refine (H5.out).mono ?_
        intro e w4 hP
        obtain ⟨he, hd4, ho4⟩ := hP
        obtain rfl : e = .returned (.tuple #[.agg #[.int .i64 0, .int .i64 1], .bool true]) := he
        have kb4 : Below w.heap.size w w4 := kb3'.trans (ho4.below kb3'.size (fun i hi h => by omega))
        have e5 : w4.cell? ⟨g, 4, none⟩ = some (.int .i64 a0) := by rw [hd4.cell]; rfl
        have z4 := hd4.lt
        clear hd4 ho4 H5 HD3 e4'
        go_wp2_with fail
        go_ret
        exact ⟨rfl, kb4.alloc kb4.size _⟩
      by_cases c2' : (n2 : Int) ≤ a0
      · skip
        have hcase : a0 < 0 ∨ (n2 : Int) ≤ a0 := .inr c2'
        obtain rfl : e = .returned (.tuple #[.agg #[.int .i64 0, .int .i64 a1], .bool true]) := he
        have hz3 : (w3.alloc (.cells #[.int .i64 0, .int .i64 a1] 30)).heap.size = w3.heap.size + 1 := by simp
        have hd3' := hd3.alloc (.cells #[.int .i64 0, .int .i64 a1] 30)
        have kb3' : Below w.heap.size w (w3.alloc (.cells #[.int .i64 0, .int .i64 a1] 30)) := kb3.alloc kb3.size _
        have z3 : g < w3.heap.size := hd3.lt
        have e4' : w3.cell? ⟨g, 4, none⟩ = some (.int .i64 a0) := by rw [hd3.cell]; rfl
        have HD3 := Lib.hid hd3'
        clear hd3 hd3'
        have h5 := caught_no g n2 c1 A1 a0 a1 a0 a0 _ HD3.out hcase (by simp only [maxLen]; omega)
        have H5 := Lib.hid h5
        clear h5 hcase
        go_wp2_with fail
        refine (H5.out).mono ?_
        intro e w4 hP
        obtain ⟨he, hd4, ho4⟩ := hP
        obtain rfl : e = .returned (.tuple #[.agg #[.int .i64 0, .int .i64 1], .bool true]) := he
        have kb4 : Below w.heap.size w w4 := kb3'.trans (ho4.below kb3'.size (fun i hi h => by omega))
        have e5 : w4.cell? ⟨g, 4, none⟩ = some (.int .i64 a0) := by rw [hd4.cell]; rfl
        have z4 := hd4.lt
        clear hd4 ho4 H5 HD3 e4'
        go_wp2_with fail
        go_ret
        exact ⟨rfl, kb4.alloc kb4.size _⟩
      · skip
        obtain ⟨k, rfl⟩ := Int.eq_ofNat_of_zero_le (by omega : 0 ≤ a0)
        have hkm : k < n2 := by omega
        obtain ⟨b1, cc1, hv1, hb1b, hb1l⟩ := HO.out.form (by omega)
        cases hv1
        have hb1g : b1 < g := HL2.out b1 rfl
        have hx := HO.out.cellAt k (by omega)
        rw [iv_get (by have := HRL.out.len; omega)] at hx
        obtain ⟨bp, off, rfl, hbp, hcp⟩ := reads_cell HRL.out hkm
        generalize (z2).getD k 0 = x at *
        have x2 := hx
        have p2 := hcp
        have zc2 := kb2.size
        have x3 := only_cell ho3 x2 (by show b1 < _; omega) (by show b1 ≠ g; omega)
        have p3 := only_cell ho3 p2 (by show bp < _; omega) (by show bp ≠ g; omega)
        obtain rfl : e = .returned (.tuple #[.agg #[.int .i64 0, .int .i64 a1], .bool true]) := he
        have hz3 : (w3.alloc (.cells #[.int .i64 0, .int .i64 a1] 30)).heap.size = w3.heap.size + 1 := by simp
        have hd3' := hd3.alloc (.cells #[.int .i64 0, .int .i64 a1] 30)
        have kb3' : Below w.heap.size w (w3.alloc (.cells #[.int .i64 0, .int .i64 a1] 30)) := kb3.alloc kb3.size _
        have z3 : g < w3.heap.size := hd3.lt
        have e4' : w3.cell? ⟨g, 4, none⟩ = some (.int .i64 (k : Int)) := by rw [hd3.cell]; rfl
        have HD3 := Lib.hid hd3'
        clear hd3 hd3'
        have zw3 := ho3.size
        have x3' : (w3.alloc (.cells #[.int .i64 0, .int .i64 a1] 30)).cell? ⟨b1, k, none⟩ = some (.int .i64 x) := below_cell ((Below.refl w3.heap.size w3).alloc (Nat.le_refl _) _) x3
        have p3' : (w3.alloc (.cells #[.int .i64 0, .int .i64 a1] 30)).cell? ⟨bp, off + k, none⟩ = some (.int .i64 x) := below_cell ((Below.refl w3.heap.size w3).alloc (Nat.le_refl _) _) p3
        have h5 := caught_yes g n2 c1 b1 k (k : Int) a1 (k : Int) x _ HD3.out hkm (by simp only [maxLen]; omega) x3'
        have H5 := Lib.hid h5
        have hkm' : (k : Int) < (n2 : Int) := by omega
        clear h5 hcp hx x2 p2 x3 p3 x3'
        go_wp2_with fail
        refine (H5.out).mono ?_
        intro e w4 hP
        obtain ⟨he, hd4, ho4⟩ := hP
        obtain rfl : e = .returned (.tuple #[.agg #[.int .i64 0, .int .i64 0], .bool false]) := he
        have kb4 : Below w.heap.size w w4 := kb3'.trans (ho4.below kb3'.size (fun i hi h => by omega))
        have p4 := only_cell ho4 p3' (by show bp < _; rw [hz3]; omega) (by show bp ≠ g; omega)
        have e5 : w4.cell? ⟨g, 4, none⟩ = some (.int .i64 x) := by rw [hd4.cell]; rfl
        have z4 := hd4.lt
        have z5 : bp < w4.heap.size := by omega
        clear hd4 ho4 H5 HD3 e4' p3'
        go_wp2_with fail
        go_quiet (fail)
        go_wp2_with fail
        go_ret
        exact ⟨rfl, below_drewN (kb4.alloc kb4.size _) _⟩
set_option maxRecDepth 100000 in
theorem lifted (os : Os) (started : os.Started) (H : Type) (enc : TypeId × Value → H) :
    ReturnsInHanded {} Try.checked os 7 .any (Rows.trapMustSpec.pre6 enc Try.prog Try.f7 Rows.trapMustRow.domain false) (Rows.trapMustSpec.post enc Try.prog Try.f7 false true false false) := by
  refine returnsInHanded_of_change (C := Try.checked) own started (by kernel_rfl) Try.func7
    (ChangeSpec.witness6 (enc := enc) (C := Try.checked) false ⟨#[], #[.int .i64 0, .int .i64 0, .slice none 0 0], []⟩ 8 (by kernel_rfl) (by kernel_rfl) (by kernel_rfl) (by kernel_rfl)) ?_
  intro W base args ds gs before hval0 hW hcnd _
  have hval : ∀ (j : Nat) t v, Try.f7.params[j]? = some t → args[j]? = some v → Value.okWide Try.prog W .any base t v := hval0
  have hW' := hW
  obtain ⟨p, q, hA0, hV, rfl, hfz, hnd⟩ := hW
  have hA : DataW.TrodAll enc Try.prog W 0 (fun _ => true) true Try.f7.params.toList args.toList ds p := hA0
  rw [Try.params7] at hA hval
  obtain ⟨v0, vs0, d0, ds0, p0, q0, hargs, rfl, rfl, h0, rr0⟩ := trodAll_cons hA
  obtain ⟨v1, vs1, d1, ds1, p1, q1, rfl, rfl, rfl, h1, rr1⟩ := trodAll_cons rr0
  obtain ⟨v2, vs2, d2, ds2, p2, q2, rfl, rfl, rfl, h2, rr2⟩ := trodAll_cons rr1
  obtain ⟨rfl, rfl, rfl⟩ := trodAll_nil rr2
  obtain rfl : args = #[v0, v1, v2] := by cases args; simp_all
  obtain ⟨rfl, rfl⟩ := trodVars_none hV
  have k0 := h0
  have lt0 : ∀ x ∈ p0, x.block < W.heap.size := by obtain ⟨m, hm⟩ := k0; exact DataW.trod_lt m _ _ _ hm
  obtain ⟨a0, rfl, _, _, w0⟩ := open_int Try.underlying3 (hval 0 3 v0 rfl rfl) h0
  have k1 := h1
  have lt1 : ∀ x ∈ p1, x.block < W.heap.size := by obtain ⟨m, hm⟩ := k1; exact DataW.trod_lt m _ _ _ hm
  obtain ⟨a1, rfl, _, _, w1⟩ := open_int Try.underlying25 (hval 1 25 v1 rfl rfl) h1
  have k2 := h2
  have lt2 : ∀ x ∈ p2, x.block < W.heap.size := by obtain ⟨m, hm⟩ := k2; exact DataW.trod_lt m _ _ _ hm
  obtain ⟨A2, n2, c2, rfl⟩ := okWide_slice Try.underlying45 (hval 2 45 v2 rfl rfl)
  obtain ⟨z2, r2, o2, m2⟩ := ints_open Try.underlying45 Try.underlying3 (by kernel_rfl) h2
  clear hA0 hval0
  refine (walk a0 a1 A2 n2 c2 z2 W w0 w1 r2 o2 m2).mono fun e W' ⟨he, bel⟩ => ?_
  subst he
  exact ⟨_, rfl, _, _, _, [], _, [], hW', trodAll_mk1 (shut_bool Try.underlying4 _), (trodAll_cons_mk (Below.trod laidOut (by kernel_rfl) (of_decide_eq_true (by kernel_rfl)) k0 bel lt0) (trodAll_cons_mk (Below.trod laidOut (by kernel_rfl) (of_decide_eq_true (by kernel_rfl)) k1 bel lt1) (trodAll_cons_mk (Below.trod laidOut (by kernel_rfl) (of_decide_eq_true (by kernel_rfl)) k2 bel lt2) trodAll_mk0))), rfl, bel.frame _, fun h => by cases h⟩

theorem over : Rows.trapMustRow.holds Try.pinned (OpenSpec.ofChange Rows.trapMustSpec) :=
  OpenClaim.holds_of_wide 7 Try.f7 rfl rfl rfl rfl rfl rfl rfl ⟨rfl, rfl, rfl, rfl, rfl⟩ rfl rfl rfl rfl rfl (by kernel_rfl) Try.func7 (by kernel_rfl)
    (of_decide_eq_true (by kernel_rfl)) (by unfold Func.isWrapper; first | (rw [if_pos (by decide +kernel)]; kernel_rfl) | (rw [if_neg (by decide +kernel)]; exact ⟨rfl, rfl⟩))
    (fun os started H enc _ => lifted os started H enc)

theorem proved : Rows.TrapMustSaid := over
#print axioms proved
end Go.Proofs.Ytmmmhkpekaimeaa.trapMust
