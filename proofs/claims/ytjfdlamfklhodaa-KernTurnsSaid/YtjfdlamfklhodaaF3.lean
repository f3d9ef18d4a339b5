/- Digits of numbers of 128 bits, compared. -/
import Derived.Test.YtjfdlamfklhodaaF1
import Derived.Test.YtjfdlamfklhodaaF2
import Derived.Test.YtjfdlamfklhodaaD2
set_option linter.unusedVariables false
namespace Go.Proofs.Ytjfdlamfklhodaa
open Go.ChangeShapes Go.WideShapes Go.ChangeAt Go.RowKit
def lexD (d0 d1 d2 d3 e0 e1 e2 e3 r : Int) : Int := if d3 < e3 then -1 else if e3 < d3 then 1 else if d2 < e2 then -1 else if e2 < d2 then 1 else if d1 < e1 then -1 else if e1 < d1 then 1 else if d0 < e0 then -1 else if e0 < d0 then 1 else r
def cmpN (x y r : Int) : Int := if x < y then -1 else if y < x then 1 else r
theorem lexD_eq {x y r : Int} (x0 : 0 ≤ x) (x1 : x < 18446744073709551616) (y0 : 0 ≤ y) (y1 : y < 18446744073709551616) :
    lexD (x % 65536) ((x / 65536) % 65536) (((x / 65536) / 65536) % 65536) ((((x / 65536) / 65536) / 65536) % 65536) (y % 65536) ((y / 65536) % 65536) (((y / 65536) / 65536) % 65536) ((((y / 65536) / 65536) / 65536) % 65536) r = cmpN x y r := by
  obtain ⟨xd0, hx0⟩ : ∃ d, (x % 65536) = d := ⟨_, rfl⟩
  obtain ⟨xd1, hx1⟩ : ∃ d, ((x / 65536) % 65536) = d := ⟨_, rfl⟩
  obtain ⟨xd2, hx2⟩ : ∃ d, (((x / 65536) / 65536) % 65536) = d := ⟨_, rfl⟩
  obtain ⟨xd3, hx3⟩ : ∃ d, ((((x / 65536) / 65536) / 65536) % 65536) = d := ⟨_, rfl⟩
  obtain ⟨yd0, hy0⟩ : ∃ d, (y % 65536) = d := ⟨_, rfl⟩
  obtain ⟨yd1, hy1⟩ : ∃ d, ((y / 65536) % 65536) = d := ⟨_, rfl⟩
  obtain ⟨yd2, hy2⟩ : ∃ d, (((y / 65536) / 65536) % 65536) = d := ⟨_, rfl⟩
  obtain ⟨yd3, hy3⟩ : ∃ d, ((((y / 65536) / 65536) / 65536) % 65536) = d := ⟨_, rfl⟩
  rw [hx0, hx1, hx2, hx3, hy0, hy1, hy2, hy3]
  have ex : x = xd0 + 65536 * xd1 + 4294967296 * xd2 + 281474976710656 * xd3 := by omega
  have bx0 : 0 ≤ xd0 ∧ xd0 < 65536 := by omega
  have bx1 : 0 ≤ xd1 ∧ xd1 < 65536 := by omega
  have bx2 : 0 ≤ xd2 ∧ xd2 < 65536 := by omega
  have bx3 : 0 ≤ xd3 ∧ xd3 < 65536 := by omega
  have ey : y = yd0 + 65536 * yd1 + 4294967296 * yd2 + 281474976710656 * yd3 := by omega
  have by0 : 0 ≤ yd0 ∧ yd0 < 65536 := by omega
  have by1 : 0 ≤ yd1 ∧ yd1 < 65536 := by omega
  have by2 : 0 ≤ yd2 ∧ yd2 < 65536 := by omega
  have by3 : 0 ≤ yd3 ∧ yd3 < 65536 := by omega
  clear hx0 hx1 hx2 hx3 hy0 hy1 hy2 hy3
  subst ex ey
  unfold lexD cmpN
  by_cases c3 : xd3 < yd3
  · rw [if_pos c3, if_pos (by omega)]
  · by_cases f3 : yd3 < xd3
    · rw [if_neg c3, if_pos f3, if_neg (by omega), if_pos (by omega)]
    · skip
      by_cases c2 : xd2 < yd2
      · rw [if_neg c3, if_neg f3, if_pos c2, if_pos (by omega)]
      · by_cases f2 : yd2 < xd2
        · rw [if_neg c3, if_neg f3, if_neg c2, if_pos f2, if_neg (by omega), if_pos (by omega)]
        · skip
          by_cases c1 : xd1 < yd1
          · rw [if_neg c3, if_neg f3, if_neg c2, if_neg f2, if_pos c1, if_pos (by omega)]
          · by_cases f1 : yd1 < xd1
            · rw [if_neg c3, if_neg f3, if_neg c2, if_neg f2, if_neg c1, if_pos f1, if_neg (by omega), if_pos (by omega)]
            · skip
              by_cases c0 : xd0 < yd0
              · rw [if_neg c3, if_neg f3, if_neg c2, if_neg f2, if_neg c1, if_neg f1, if_pos c0, if_pos (by omega)]
              · by_cases f0 : yd0 < xd0
                · rw [if_neg c3, if_neg f3, if_neg c2, if_neg f2, if_neg c1, if_neg f1, if_neg c0, if_pos f0, if_neg (by omega), if_pos (by omega)]
                · rw [if_neg c3, if_neg f3, if_neg c2, if_neg f2, if_neg c1, if_neg f1, if_neg c0, if_neg f0, if_neg (by omega), if_neg (by omega)]
theorem c8D_eq {l1 H1 l2 H2 : Int} (a0 : 0 ≤ l1) (a1 : l1 < 18446744073709551616) (b0 : 0 ≤ H1) (b1 : H1 < 18446744073709551616) (c0 : 0 ≤ l2) (c1 : l2 < 18446744073709551616) (d0 : 0 ≤ H2) (d1 : H2 < 18446744073709551616) :
    c8D (l1 % 65536) ((l1 / 65536) % 65536) (((l1 / 65536) / 65536) % 65536) ((((l1 / 65536) / 65536) / 65536) % 65536) (H1 % 65536) ((H1 / 65536) % 65536) (((H1 / 65536) / 65536) % 65536) ((((H1 / 65536) / 65536) / 65536) % 65536) (l2 % 65536) ((l2 / 65536) % 65536) (((l2 / 65536) / 65536) % 65536) ((((l2 / 65536) / 65536) / 65536) % 65536) (H2 % 65536) ((H2 / 65536) % 65536) (((H2 / 65536) / 65536) % 65536) ((((H2 / 65536) / 65536) / 65536) % 65536) = cmpN H1 H2 (cmpN l1 l2 0) := by
  rw [← lexD_eq (r := 0) a0 a1 c0 c1, ← lexD_eq b0 b1 d0 d1]; rfl
def uH (h : Int) : Int := if h < 0 then h + 18446744073709551616 else h
def sH (h : Int) : Int := if h < 0 then 65535 else 0
theorem uH_bd {h : Int} (h0 : -9223372036854775808 ≤ h) (h1 : h ≤ 9223372036854775807) : 0 ≤ uH h ∧ uH h < 18446744073709551616 ∧ IntKind.u64.wrap h = uH h := by
  unfold uH
  by_cases c : h < 0
  · rw [if_pos c]; refine ⟨by omega, by omega, ?_⟩; simp [IntKind.wrap, IntKind.bits, IntKind.signed]; omega
  · rw [if_neg c]; refine ⟨by omega, by omega, ?_⟩; simp [IntKind.wrap, IntKind.bits, IntKind.signed]; omega
theorem sH_cases (h : Int) : (0 ≤ h ∧ sH h = 0) ∨ (h < 0 ∧ sH h = 65535) := by
  unfold sH
  by_cases c : h < 0
  · rw [if_pos c]; exact .inr ⟨c, rfl⟩
  · rw [if_neg c]; exact .inl ⟨by omega, rfl⟩
theorem rof_any (h l : Int) (h0 : -9223372036854775808 ≤ h) (h1 : h ≤ 9223372036854775807) (l0 : 0 ≤ l) (l1 : l < 18446744073709551616) (w : World) :
    Calls Try.prog 38 #[.agg #[.int .i64 h, .int .u64 l]] w fun e w' => e = .returned (.agg #[.int .u64 (l % 65536), .int .u64 ((l / 65536) % 65536), .int .u64 (((l / 65536) / 65536) % 65536), .int .u64 ((((l / 65536) / 65536) / 65536) % 65536), .int .u64 ((uH h) % 65536), .int .u64 (((uH h) / 65536) % 65536), .int .u64 ((((uH h) / 65536) / 65536) % 65536), .int .u64 (((((uH h) / 65536) / 65536) / 65536) % 65536), .int .u64 (sH h)]) ∧ Below w.heap.size w w' :=
  have q := uH_bd h0 h1
  rof h l (uH h) (sH h) l0 (by omega) q.1 (by have := q.2.1; omega) q.2.2 (sH_cases h) w
theorem rcmp (h1 l1 h2 l2 : Int) (a0 : -9223372036854775808 ≤ h1) (a1 : h1 ≤ 9223372036854775807) (b0 : 0 ≤ l1) (b1 : l1 < 18446744073709551616) (c0 : -9223372036854775808 ≤ h2) (c1 : h2 ≤ 9223372036854775807) (d0 : 0 ≤ l2) (d1 : l2 < 18446744073709551616) (w : World) :
    Calls Try.prog 41 #[.agg #[.int .u64 (l1 % 65536), .int .u64 ((l1 / 65536) % 65536), .int .u64 (((l1 / 65536) / 65536) % 65536), .int .u64 ((((l1 / 65536) / 65536) / 65536) % 65536), .int .u64 ((uH h1) % 65536), .int .u64 (((uH h1) / 65536) % 65536), .int .u64 ((((uH h1) / 65536) / 65536) % 65536), .int .u64 (((((uH h1) / 65536) / 65536) / 65536) % 65536), .int .u64 (sH h1)], .agg #[.int .u64 (l2 % 65536), .int .u64 ((l2 / 65536) % 65536), .int .u64 (((l2 / 65536) / 65536) % 65536), .int .u64 ((((l2 / 65536) / 65536) / 65536) % 65536), .int .u64 ((uH h2) % 65536), .int .u64 (((uH h2) / 65536) % 65536), .int .u64 ((((uH h2) / 65536) / 65536) % 65536), .int .u64 (((((uH h2) / 65536) / 65536) / 65536) % 65536), .int .u64 (sH h2)]] w fun e w' => e = .returned (.int .i64 (cmpW h1 l1 h2 l2)) ∧ Below w.heap.size w w' := by
  have u1 := uH_bd a0 a1
  have u2 := uH_bd c0 c1
  have hq := c8D_eq b0 b1 u1.1 u1.2.1 d0 d1 u2.1 u2.2.1
  rcases sH_cases h1 with ⟨s1, t1⟩ | ⟨s1, t1⟩ <;> rcases sH_cases h2 with ⟨s2, t2⟩ | ⟨s2, t2⟩ <;> rw [t1, t2]
  · refine as_int (dcmp_e false _ _ _ _ _ _ _ _ _ _ _ _ _ _ _ _ _ _ rfl rfl w) (hq.trans ?_)
    have p1 : uH h1 = h1 := if_neg (by omega)
    have p2 : uH h2 = h2 := if_neg (by omega)
    rw [p1, p2]; rfl
  · refine as_int (dcmp_g _ _ _ _ _ _ _ _ _ _ _ _ _ _ _ _ _ _ rfl rfl w) ?_
    unfold cmpW; rw [if_neg (by omega), if_pos (by omega)]
  · refine as_int (dcmp_l _ _ _ _ _ _ _ _ _ _ _ _ _ _ _ _ _ _ rfl rfl w) ?_
    unfold cmpW; rw [if_pos (by omega)]
  · refine as_int (dcmp_e true _ _ _ _ _ _ _ _ _ _ _ _ _ _ _ _ _ _ rfl rfl w) (hq.trans ?_)
    have p1 : uH h1 = h1 + 18446744073709551616 := if_pos s1
    have p2 : uH h2 = h2 + 18446744073709551616 := if_pos s2
    rw [p1, p2]
    unfold cmpN cmpW
    by_cases e1 : h1 < h2
    · rw [if_pos (by omega), if_pos e1]
    · by_cases e2 : h2 < h1
      · rw [if_neg (by omega), if_pos (by omega), if_neg e1, if_pos e2]
      · rw [if_neg (by omega), if_neg (by omega), if_neg e1, if_neg e2]
theorem wsign (h l : Int) (w : World) : Calls Try.prog 42 #[.agg #[.int .i64 h, .int .u64 l]] w fun e w' => e = .returned (.int .i64 (cmpW h l 0 0)) ∧ Below w.heap.size w w' := by
  go_enter Try.func42, Try.ntmps42
  go_wp2_with fail
  refine (wcmp h l 0 0 _).mono ?_
  rintro e w1 ⟨rfl, hb⟩
  go_wp2_with fail
  go_ret
  exact ⟨rfl, below_below (by simp) hb (by repeat (first | with_reducible exact Below.refl _ _ | with_reducible assumption | with_reducible refine Below.setCell ?_ (by first | omega | (simp <;> omega)) _ | with_reducible refine below_drewN ?_ _ | with_reducible refine Below.drew ?_ | with_reducible refine Below.alloc ?_ (by first | omega | (simp <;> omega)) _))⟩
theorem long0 (w : World) : Calls Try.prog 30 #[.int .i64 0] w fun e w' => e = .returned (.agg #[.int .u64 0, .int .u64 0, .int .u64 0, .int .u64 0, .int .u64 0, .int .u64 0, .int .u64 0, .int .u64 0, .int .u64 0]) ∧ Below w.heap.size w w' := by
  have R : ∀ w : World, Calls Try.prog 38 #[.agg #[.int .i64 0, .int .u64 0]] w fun e w' => e = .returned (.agg #[.int .u64 0, .int .u64 0, .int .u64 0, .int .u64 0, .int .u64 0, .int .u64 0, .int .u64 0, .int .u64 0, .int .u64 0]) ∧ Below w.heap.size w w' := fun w => rof_any 0 0 (by omega) (by omega) (by omega) (by omega) w
  have HR := Lib.hid R
  clear R
  go_enter Try.func30, Try.ntmps30
  go_wp2_with fail
  refine (HR.out _).mono ?_
  rintro e w1 ⟨rfl, hb⟩
  obtain ⟨hc, hf⟩ := bcell hb
  have hz : w.heap.size + 1 < w1.heap.size := by have := hb.size; simp at this; omega
  have hz0 : w.heap.size < w1.heap.size := by omega
  have cc : ∀ o, o < 9 → w1.cell? ⟨w.heap.size, o, none⟩ = some (.int .u64 0) := by
    intro o ho
    rw [hc _ _ (by simp <;> omega)]
    rcases (by omega : o = 0 ∨ o = 1 ∨ o = 2 ∨ o = 3 ∨ o = 4 ∨ o = 5 ∨ o = 6 ∨ o = 7 ∨ o = 8) with rfl | rfl | rfl | rfl | rfl | rfl | rfl | rfl | rfl <;> go_simp
  have c0 := cc 0 (by omega)
  have c1 := cc 1 (by omega)
  have c2 := cc 2 (by omega)
  have c3 := cc 3 (by omega)
  have c4 := cc 4 (by omega)
  have c5 := cc 5 (by omega)
  have c6 := cc 6 (by omega)
  have c7 := cc 7 (by omega)
  have c8 := cc 8 (by omega)
  have hk : Below w.heap.size w w1 := below_below (by simp) hb (by repeat (first | with_reducible exact Below.refl _ _ | with_reducible assumption | with_reducible refine Below.setCell ?_ (by first | omega | (simp <;> omega)) _ | with_reducible refine below_drewN ?_ _ | with_reducible refine Below.drew ?_ | with_reducible refine Below.alloc ?_ (by first | omega | (simp <;> omega)) _))
  go_wp2_with fail
  exact bodyPost_ret (v := .agg #[.int .u64 0, .int .u64 0, .int .u64 0, .int .u64 0, .int .u64 0, .int .u64 0, .int .u64 0, .int .u64 0, .int .u64 0]) (by simp [results, Try.results30, go_sem, hz, hz0, c0, c1, c2, c3, c4, c5, c6, c7, c8]) rfl ⟨rfl, (by repeat (first | with_reducible exact Below.refl _ _ | with_reducible assumption | with_reducible refine Below.setCell ?_ (by first | omega | (simp <;> omega)) _ | with_reducible refine below_drewN ?_ _ | with_reducible refine Below.drew ?_ | with_reducible refine Below.alloc ?_ (by first | omega | (simp <;> omega)) _))⟩
end Go.Proofs.Ytjfdlamfklhodaa
