/- How many nodes lie on the way to a cell (layer 23). -/
import Derived.Test.YtdnbklfdapdocaaO
import Derived.Test.YtdnbklfdapdocaaLv23
import Derived.LoopN
import Derived.Lib.SmallJoins
import Derived.Deep.LoopGhost
import Derived.Deep.DeepCutAuto
set_option linter.unusedVariables false
set_option linter.unusedSimpArgs false
namespace Go.Proofs.Ytdnbklfdapdocaa
open Go.ChangeShapes Go.WideShapes Go.ChangeAt Go.RowKit
def lvN (n : Nat) : Nat := if h : n < 1 then 0 else if h2 : n = 1 then 1 else 1 + lvN (n - n / 2)
termination_by n
decreasing_by omega
theorem w64 {a : Int} {b : Nat} (h : a = b) (hb : b ≤ 9223372036854775807) : wrap64 a = (b : Int) := by
  subst h
  unfold wrap64
  omega
theorem lv_zero : lvN 0 = 0 := by rw [lvN]; simp
theorem lv_one : lvN 1 = 1 := by rw [lvN]; simp
theorem lv_big {n : Nat} (h : 1 < n) : lvN n = 1 + lvN (n - n / 2) := by rw [lvN, dif_neg (by omega), dif_neg (by omega)]
theorem lv_mono : ∀ (b a : Nat), a ≤ b → lvN a ≤ lvN b := by
  intro b
  induction b using Nat.strongRecOn with
  | _ b ih =>
    intro a h
    by_cases hb : 1 < b
    · by_cases ha : 1 < a
      · rw [lv_big hb, lv_big ha]
        have := ih (b - b / 2) (by omega) (a - a / 2) (by omega)
        omega
      · rcases (by omega : a = 0 ∨ a = 1) with rfl | rfl
        · rw [lv_zero]; exact Nat.zero_le _
        · rw [lv_one, lv_big hb]; omega
    · rcases (by omega : (a = 0 ∧ b = 0) ∨ (a = 0 ∧ b = 1) ∨ (a = 1 ∧ b = 1)) with ⟨rfl, rfl⟩ | ⟨rfl, rfl⟩ | ⟨rfl, rfl⟩
      · exact Nat.le_refl _
      · rw [lv_zero]; exact Nat.zero_le _
      · exact Nat.le_refl _
theorem lv_le (n : Nat) : lvN n ≤ n := by
  induction n using Nat.strongRecOn with
  | _ n ih =>
    by_cases h : 1 < n
    · rw [lv_big h]
      have := ih (n - n / 2) (by omega)
      omega
    · rcases (by omega : n = 0 ∨ n = 1) with rfl | rfl
      · rw [lv_zero]; exact Nat.le_refl _
      · rw [lv_one]; exact Nat.le_refl _
theorem lv_pos {n : Nat} (h : 1 ≤ n) : 1 ≤ lvN n := by
  have := lv_mono n 1 h
  rw [lv_one] at this
  exact this
set_option maxRecDepth 100000 in
set_option maxHeartbeats 4000000 in
theorem levels_low (c : Int) (hc : c < 1) (w : World) : Calls Try.prog 42 #[.int .i64 c] w fun e w' => e = .returned (.int .i64 0) ∧ w = w' := by
  have t0 : decide (c < 1) = true := by simpa using hc
  go_enter Try.func42, Try.ntmps42
  go_wp2_with fail
  go_ret
  exact ⟨rfl, rfl⟩
set_option maxRecDepth 100000 in
set_option maxHeartbeats 4000000 in
theorem rlevels_low (c : Int) (hc : c < 1) (w : World) : Calls Try.prog 43 #[.int .i64 c] w fun e w' => e = .returned (.int .i64 0) ∧ w = w' := by
  have t0 : decide (c < 1) = true := by simpa using hc
  go_enter Try.func43, Try.ntmps43
  go_wp2_with fail
  go_ret
  exact ⟨rfl, rfl⟩
set_option maxRecDepth 100000 in
set_option maxHeartbeats 4000000 in
theorem levels_any (m : Nat) (h1 : 1 ≤ m) (hm : m ≤ 9223372036854775807) (w : World) : Calls Try.prog 42 #[.int .i64 (m : Int)] w fun e w' => e = .returned (.int .i64 (lvN m : Int)) ∧ w = w' := by
  have t0 : decide ((m : Int) < 1) = false := by simp; omega
  have t00 : (1 : Int) ≤ (m : Int) := by omega
  have HM := Lib.hid hm
  have H1 := Lib.hid h1
  obtain ⟨L, hL⟩ : ∃ L, L = lvN m := ⟨_, rfl⟩
  have HL : Hid (L ≤ m ∧ 1 ≤ L ∧ L = lvN m) := Lib.hid ⟨by rw [hL]; exact lv_le m, by rw [hL]; exact lv_pos h1, hL⟩
  rw [← hL]
  clear hm h1 hL
  go_enter Try.func42, Try.ntmps42
  go_wp2_with fail
  go_loopg [0, 3] m (fun k z l wr => ∃ (d q : Nat), d = k ∧ z = .int .i64 (d : Int) ∧ l = .int .i64 (q : Int) ∧ Hid (q + lvN d = L + 1 ∧ 1 ≤ d ∧ d ≤ m) ∧ w = wr)
  case atStart => exact ⟨m, 1, rfl, rfl, rfl, Lib.hid ⟨by rw [HL.out.2.2]; omega, H1.out, Nat.le_refl _⟩, rfl⟩
  case round =>
    obtain ⟨d, q, rfl, rfl, rfl, hF, rfl⟩ := hrel
    by_cases hlt : 1 < d
    · obtain ⟨g, hg⟩ : ∃ g, g = d - d / 2 := ⟨_, rfl⟩
      obtain ⟨f, hf⟩ : ∃ f, f = d / 2 := ⟨_, rfl⟩
      have hb := lv_big hlt
      rw [← hg] at hb
      have hp : 1 ≤ lvN g := lv_pos (by omega)
      have t1 : decide ((1 : Int) < (d : Int)) = true := by simp; omega
      have t1n : decide (1 < d) = true := by simp; omega
      have t2 : (d : Int).tdiv 2 = (f : Int) := by rw [Int.tdiv_eq_ediv_of_nonneg (by omega)]; omega
      have t2b : wrap64 (f : Int) = (f : Int) := w64 (by omega) (by have := HM.out; have := hF.out; omega)
      have t3 : wrap64 ((d : Int) - (f : Int)) = (g : Int) := w64 (by omega) (by have := HM.out; have := hF.out; omega)
      have t4 : wrap64 ((q : Int) + 1) = ((q + 1 : Nat) : Int) := w64 (by omega) (by have := HM.out; have := hF.out; have := HL.out; omega)
      have t5 : (1 : Int) < (d : Int) := by omega
      have HQ : Hid (g < d ∧ q + 1 + lvN g = L + 1 ∧ 1 ≤ g ∧ g ≤ m) := Lib.hid (by have := hF.out; omega)
      clear hg hf hb hp hlt
      go_wp2_with fail
      go_roundg g
      case measure => exact HQ.out.1
      case rel => exact ⟨g, q + 1, rfl, by go_num, by go_num, Lib.hid HQ.out.2, rfl⟩
    · have t1 : decide ((1 : Int) < (d : Int)) = false := by simp; omega
      have t1n : decide (1 < d) = false := by simp; omega
      have hd : d = 1 := by have := hF.out; omega
      have HQ : Hid (q = L) := Lib.hid (by have := hF.out.1; rw [hd, lv_one] at this; omega)
      have t5 : (d : Int) ≤ 1 := by omega
      clear hd hlt
      go_wp2_with fail
      go_ret
      exact ⟨by rw [HQ.out]; rfl, rfl⟩
def pw (i : Nat) : Nat := 2 ^ (64 - i)
theorem two_half {d i : Nat} (h : d ≤ pw i) (hd : 1 < d) : i < 64 ∧ d - d / 2 ≤ pw (i + 1) := by
  have hi : i < 64 := by
    rcases Nat.lt_or_ge i 64 with h' | h'
    · exact h'
    · unfold pw at h; rw [Nat.sub_eq_zero_of_le h'] at h; clear h'; omega
  refine ⟨hi, ?_⟩
  have e : pw i = pw (i + 1) * 2 := by
    unfold pw
    rw [← Nat.pow_succ]
    congr 1
    omega
  rw [e] at h
  generalize pw (i + 1) = p at *
  omega
theorem two_one {d i : Nat} (h : d ≤ pw i) (hi : 64 ≤ i) : d ≤ 1 := by
  unfold pw at h
  rw [Nat.sub_eq_zero_of_le hi] at h
  exact h
theorem start_le {m : Nat} (h : m ≤ 9223372036854775807) : m ≤ pw 0 := by
  have e : pw 0 = 18446744073709551616 := by unfold pw; simp
  rw [e]
  omega
set_option maxRecDepth 100000 in
set_option maxHeartbeats 4000000 in
theorem rlevels_any (m : Nat) (h1 : 1 ≤ m) (hm : m ≤ 9223372036854775807) (w : World) : Calls Try.prog 43 #[.int .i64 (m : Int)] w fun e w' => e = .returned (.int .i64 (lvN m : Int)) ∧ w = w' := by
  have t0 : decide ((m : Int) < 1) = false := by simp; omega
  have t00 : (1 : Int) ≤ (m : Int) := by omega
  have HM := Lib.hid hm
  have H1 := Lib.hid h1
  obtain ⟨L, hL⟩ : ∃ L, L = lvN m := ⟨_, rfl⟩
  have HL : Hid (L ≤ m ∧ 1 ≤ L ∧ L = lvN m) := Lib.hid ⟨by rw [hL]; exact lv_le m, by rw [hL]; exact lv_pos h1, hL⟩
  rw [← hL]
  clear hm h1 hL
  go_enter Try.func43, Try.ntmps43
  go_wp2_with fail
  go_loopg [0, 3, 4] 70 (fun k z l t wr => ∃ (i d q : Nat), i + k = 70 ∧ z = .int .i64 (d : Int) ∧ l = .int .i64 (q : Int) ∧ t = .int .i64 (i : Int) ∧ Hid (q + lvN d = L + 1 ∧ 1 ≤ d ∧ d ≤ m ∧ d ≤ pw i) ∧ w = wr)
  case atStart => exact ⟨0, m, 1, rfl, rfl, rfl, rfl, Lib.hid ⟨by rw [HL.out.2.2]; omega, H1.out, Nat.le_refl _, start_le HM.out⟩, rfl⟩
  case round =>
    obtain ⟨i, d, q, hik, rfl, rfl, rfl, hF, rfl⟩ := hrel
    have HIK := Lib.hid hik
    clear hik
    by_cases hlt : 1 < d
    · have hth := two_half hF.out.2.2.2 hlt
      obtain ⟨g, hg⟩ : ∃ g, g = d - d / 2 := ⟨_, rfl⟩
      obtain ⟨f, hf⟩ : ∃ f, f = d / 2 := ⟨_, rfl⟩
      have hb := lv_big hlt
      rw [← hg] at hb hth
      have HT := Lib.hid hth.2
      have HI64 := Lib.hid hth.1
      clear hth
      have hp : 1 ≤ lvN g := lv_pos (by omega)
      have t1 : decide ((1 : Int) < (d : Int)) = true := by simp; omega
      have t1n : decide (1 < d) = true := by simp; omega
      have t2 : (d : Int).tdiv 2 = (f : Int) := by rw [Int.tdiv_eq_ediv_of_nonneg (by omega)]; omega
      have t2b : wrap64 (f : Int) = (f : Int) := w64 (by omega) (by have := HM.out; have := hF.out.2.2.1; omega)
      have t3 : wrap64 ((d : Int) - (f : Int)) = (g : Int) := w64 (by omega) (by have := HM.out; have := hF.out.2.2.1; omega)
      have t4 : wrap64 ((q : Int) + 1) = ((q + 1 : Nat) : Int) := w64 (by omega) (by have := HM.out; have := hF.out.1; have := HL.out; omega)
      have t5 : (1 : Int) < (d : Int) := by omega
      have HQ : Hid (q + 1 + lvN g = L + 1 ∧ 1 ≤ g ∧ g ≤ m ∧ g ≤ pw (i + 1)) := Lib.hid ⟨by have := hF.out.1; omega, by omega, by have := hF.out.2.2.1; omega, HT.out⟩
      have HI := Lib.hid (And.intro HI64.out HIK.out)
      clear hg hf hb hp hlt HIK
      have t6 : decide ((i : Int) < 70) = true := by have := HI64.out; simp; omega
      have t6n : decide (i < 70) = true := by have := HI64.out; simp; omega
      have t7 : wrap64 ((i : Int) + 1) = ((i + 1 : Nat) : Int) := w64 (by omega) (by have := HI64.out; omega)
      have t8 : (i : Int) < 70 := by have := HI64.out; omega
      clear HI64
      go_wp2_with fail
      go_roundg (69 - i)
      case measure => have := HI.out; omega
      case rel => exact ⟨i + 1, g, q + 1, by have := HI.out; omega, by go_num, by go_num, by go_num, Lib.hid HQ.out, rfl⟩
    · have t1 : decide ((1 : Int) < (d : Int)) = false := by simp; omega
      have t1n : decide (1 < d) = false := by simp; omega
      have hd : d = 1 := by have := hF.out.2.1; omega
      have HQ : Hid (q = L) := Lib.hid (by have := hF.out.1; rw [hd, lv_one] at this; omega)
      have t5 : (d : Int) ≤ 1 := by omega
      clear hd hlt
      by_cases hi : i < 70
      · have t6 : decide ((i : Int) < 70) = true := by simp; omega
        have t6n : decide (i < 70) = true := by simp; omega
        have t8 : (i : Int) < 70 := by omega
        clear hi HIK
        go_wp2_with fail
        go_ret
        exact ⟨by rw [HQ.out]; rfl, rfl⟩
      · have t6 : decide ((i : Int) < 70) = false := by simp; omega
        have t6n : decide (i < 70) = false := by simp; omega
        have t8 : (70 : Int) ≤ (i : Int) := by omega
        clear hi HIK
        go_wp2_with fail
        go_ret
        exact ⟨by rw [HQ.out]; rfl, rfl⟩
theorem way_nums {lo hi q L c md : Nat} (hm : md = lo + (hi - lo) / 2) (h1 : lo < hi) (h2 : hi < c) (h3 : q + lvN (hi - lo + 1) ≤ L + 1) :
    (lo ≤ md ∧ md < c ∧ q + 1 + lvN (md - lo + 1) ≤ L + 1) ∧ (md + 1 ≤ hi ∧ hi < c ∧ q + 1 + lvN (hi - (md + 1) + 1) ≤ L + 1) := by
  obtain ⟨D, hD⟩ : ∃ D, D = hi - lo + 1 := ⟨_, rfl⟩
  obtain ⟨A, hA⟩ : ∃ A, A = md - lo + 1 := ⟨_, rfl⟩
  obtain ⟨B, hB⟩ : ∃ B, B = hi - (md + 1) + 1 := ⟨_, rfl⟩
  rw [← hD] at h3
  rw [← hA, ← hB]
  have hb := lv_big (n := D) (by omega)
  have hl1 := lv_mono (D - D / 2) A (by omega)
  have hl2 := lv_mono (D - D / 2) B (by omega)
  rw [hb] at h3
  generalize lvN (D - D / 2) = p at *
  generalize lvN A = pa at *
  generalize lvN B = pb at *
  refine ⟨⟨by omega, by omega, ?_⟩, by omega, h2, ?_⟩
  · clear hD hA hB hm; omega
  · clear hD hA hB hm; omega
theorem way_start {e c L : Nat} (he : e = c - 1) (h1 : 1 ≤ c) (hL : L = lvN c) : 1 + lvN (e - 0 + 1) ≤ L + 1 := by
  have h : e - 0 + 1 = c := by omega
  rw [h, hL]
  omega
set_option maxRecDepth 100000 in
set_option maxHeartbeats 4000000 in
theorem way_any (c x : Nat) (h1 : 1 ≤ c) (hc : c ≤ 1099511627776) (hx : x < c) (w : World) : Calls Try.prog 45 #[.int .i64 0, .int .i64 ((c - 1 : Nat) : Int), .int .i64 (x : Int)] w fun e w' => ∃ q : Nat, e = .returned (.int .i64 (q : Int)) ∧ q ≤ lvN c ∧ w = w' := by
  have HC := Lib.hid hc
  have H1 := Lib.hid h1
  obtain ⟨L, hL⟩ : ∃ L, L = lvN c := ⟨_, rfl⟩
  have HL : Hid (L ≤ c ∧ 1 ≤ L ∧ L = lvN c) := Lib.hid ⟨by rw [hL]; exact lv_le c, by rw [hL]; exact lv_pos h1, hL⟩
  have HX := Lib.hid hx
  obtain ⟨e, he⟩ : ∃ e, e = c - 1 := ⟨_, rfl⟩
  have HE := Lib.hid he
  rw [← hL, ← he]
  clear hc h1 hL hx he
  go_enter Try.func45, Try.ntmps45
  go_wp2_with fail
  go_loopg [0, 1, 7, 8] 70 (fun k z u l t wr => ∃ (i lo hi q : Nat), i + k = 70 ∧ z = .int .i64 (lo : Int) ∧ u = .int .i64 (hi : Int) ∧ l = .int .i64 (q : Int) ∧ t = .int .i64 (i : Int) ∧ Hid (lo ≤ hi ∧ hi < c ∧ q + lvN (hi - lo + 1) ≤ L + 1) ∧ w = wr)
  case atStart => exact ⟨0, 0, e, 1, rfl, rfl, rfl, rfl, rfl, Lib.hid ⟨Nat.zero_le _, by have := HE.out; have := H1.out; omega, way_start HE.out H1.out HL.out.2.2⟩, rfl⟩
  case round =>
    obtain ⟨i, lo, hi, q, hik, rfl, rfl, rfl, rfl, hF, rfl⟩ := hrel
    have HIK := Lib.hid hik
    clear hik
    have hq : q ≤ L := by have := lv_pos (n := hi - lo + 1) (by omega); have := hF.out.2.2; omega
    have HQ0 := Lib.hid hq
    clear hq
    by_cases hi70 : i < 70
    · have HI70 := Lib.hid hi70
      clear hi70
      by_cases hlt : lo < hi
      · have t1 : decide ((lo : Int) < (hi : Int)) = true := by simp; omega
        have t1n : decide (lo < hi) = true := by simp; omega
        have t5 : (lo : Int) < (hi : Int) := by omega
        obtain ⟨s, hs⟩ : ∃ s, s = hi - lo := ⟨_, rfl⟩
        obtain ⟨f, hf⟩ : ∃ f, f = s / 2 := ⟨_, rfl⟩
        obtain ⟨md, hmd⟩ : ∃ md, md = lo + f := ⟨_, rfl⟩
        have T2 : Hid (wrap64 ((hi : Int) - (lo : Int)) = (s : Int)) := Lib.hid (w64 (by omega) (by have := HC.out; have := hF.out.1; have := hF.out.2.1; omega))
        have t3 : (s : Int).tdiv 2 = (f : Int) := by rw [Int.tdiv_eq_ediv_of_nonneg (by omega)]; omega
        have T3b : Hid (wrap64 (f : Int) = (f : Int)) := Lib.hid (w64 (by omega) (by have := HC.out; have := hF.out.1; have := hF.out.2.1; omega))
        have T4 : Hid (wrap64 ((lo : Int) + (f : Int)) = (md : Int)) := Lib.hid (w64 (by omega) (by have := HC.out; have := hF.out.1; have := hF.out.2.1; omega))
        have T9 : Hid (wrap64 ((md : Int) + 1) = ((md + 1 : Nat) : Int)) := Lib.hid (w64 (by omega) (by have := HC.out; have := hF.out.1; have := hF.out.2.1; omega))
        have T10 : Hid (wrap64 ((q : Int) + 1) = ((q + 1 : Nat) : Int)) := Lib.hid (w64 (by omega) (by have := HC.out; have := HQ0.out; have := HL.out; omega))
        have HA := Lib.hid (way_nums (md := md) (by rw [hmd, hf, hs]) hlt hF.out.2.1 hF.out.2.2)
        have HI := Lib.hid (And.intro HI70.out HIK.out)
        clear hs hf hmd hlt
        by_cases hxm : x ≤ md
        · have t11 : decide ((x : Int) ≤ (md : Int)) = true := by simp; omega
          have t11n : decide (x ≤ md) = true := by simp; omega
          have t12 : (x : Int) ≤ (md : Int) := by omega
          clear hxm
          have t6 : decide ((i : Int) < 70) = true := by have := HI70.out; simp; omega
          have t6n : decide (i < 70) = true := by have := HI70.out; simp; omega
          have t8 : (i : Int) < 70 := by have := HI70.out; omega
          have T7 : Hid (wrap64 ((i : Int) + 1) = ((i + 1 : Nat) : Int)) := Lib.hid (w64 (by omega) (by have := HI70.out; omega))
          have t2 := T2.out
          have t3b := T3b.out
          have t4 := T4.out
          have t9 := T9.out
          have t10 := T10.out
          have t7 := T7.out
          clear HI70 HIK
          go_upto_region 9 with fail
          clear t1 t1n t2 t3 t3b t4 t5 t9 t11 t11n t12 t6 t6n t8 t7
          go_wp2_with fail
          go_roundg (69 - i)
          case measure => have := HI.out; omega
          case rel => exact ⟨i + 1, lo, md, q + 1, by have := HI.out; omega, rfl, by rw [T4.out], by first | rfl | rw [T10.out], by first | rfl | rw [T7.out], Lib.hid HA.out.1, rfl⟩
        · have t11 : decide ((x : Int) ≤ (md : Int)) = false := by simp; omega
          have t11n : decide (x ≤ md) = false := by simp; omega
          have t12 : (md : Int) < (x : Int) := by omega
          clear hxm
          have t6 : decide ((i : Int) < 70) = true := by have := HI70.out; simp; omega
          have t6n : decide (i < 70) = true := by have := HI70.out; simp; omega
          have t8 : (i : Int) < 70 := by have := HI70.out; omega
          have T7 : Hid (wrap64 ((i : Int) + 1) = ((i + 1 : Nat) : Int)) := Lib.hid (w64 (by omega) (by have := HI70.out; omega))
          have t2 := T2.out
          have t3b := T3b.out
          have t4 := T4.out
          have t9 := T9.out
          have t10 := T10.out
          have t7 := T7.out
          clear HI70 HIK
          go_upto_region 9 with fail
          clear t1 t1n t2 t3 t3b t4 t5 t9 t11 t11n t12 t6 t6n t8 t7
          go_wp2_with fail
          go_roundg (69 - i)
          case measure => have := HI.out; omega
          case rel => exact ⟨i + 1, md + 1, hi, q + 1, by have := HI.out; omega, by first | rw [T9.out] | rw [T4.out, T9.out], rfl, by first | rfl | rw [T10.out], by first | rfl | rw [T7.out], Lib.hid HA.out.2, rfl⟩
      · have t1 : decide ((lo : Int) < (hi : Int)) = false := by simp; omega
        have t1n : decide (lo < hi) = false := by simp; omega
        have t5 : (hi : Int) ≤ (lo : Int) := by omega
        clear hlt
        have t6 : decide ((i : Int) < 70) = true := by have := HI70.out; simp; omega
        have t6n : decide (i < 70) = true := by have := HI70.out; simp; omega
        have t8 : (i : Int) < 70 := by have := HI70.out; omega
        clear HI70 HIK
        go_wp2_with fail
        go_ret
        exact ⟨q, rfl, HQ0.out, rfl⟩
    · have t6 : decide ((i : Int) < 70) = false := by simp; omega
      have t6n : decide (i < 70) = false := by simp; omega
      have t8 : (70 : Int) ≤ (i : Int) := by omega
      clear hi70 HIK
      go_wp2_with fail
      go_ret
      exact ⟨q, rfl, HQ0.out, rfl⟩
end Go.Proofs.Ytdnbklfdapdocaa
