/- Steps cut, in memory of their own (layer 5). -/
import Derived.Test.YtmmmhkpekaimeaaT4
import Derived.Laws.OwnMore
set_option linter.unusedVariables false
namespace Go.Proofs.Ytmmmhkpekaimeaa
open Go.ChangeShapes Go.WideShapes Go.ChangeAt Go.RowKit
theorem okS_snoc {S : List Int} {k : Nat} {a b c d e : Int} (h : okS S k) (hl : S.length = k * 5) (he : 0 ≤ e ∧ e ≤ 50) : okS (S ++ [a, b, c, d, e]) (k + 1) := by
  intro j hj
  by_cases hjk : j < k
  · have := h j hjk
    rw [List.getD_eq_getElem?_getD] at *
    rw [List.getElem?_append_left (by omega)]
    exact this
  · obtain rfl : j = k := by omega
    rw [List.getD_eq_getElem?_getD, List.getElem?_append_right (by omega), hl, show j * 5 + 4 - j * 5 = 4 by omega]
    exact he
theorem own_lo {w : World} {base : Nat} {e : TypeId} {size n : Nat} {v : Value} {xs : List Value} (h : w.ownsRow base e size v n xs) : ∀ g, v.ownBlock = some g → base ≤ g := fun g hg => (h.lt g hg).1
theorem step_info : (Try.prog.info? 94).map (fun i => (i.zero, i.size, i.bytes)) = some (some (.agg #[.int .i64 0, .int .i64 0, .int .i64 0, .int .i64 0, .int .i64 0]), 5, 40) := by kernel_rfl
def FewS (w : World) (e : Ending) (w' : World) : Prop := ∃ A c n S, e = .returned (.slice A n c) ∧ w'.ownsRow w.heap.size 94 5 (.slice A n c) n (iv S) ∧ okS S n ∧ n ≤ 20 ∧ Below w.heap.size w w'
set_option maxRecDepth 100000 in
set_option maxHeartbeats 8000000 in
theorem few_any (A : Option Addr) (n c B : Nat) (Z : List Int) (w : World) (hr : Reads w B 5 A n (iv Z)) (hB : B ≤ w.heap.size) (hc : n ≤ c ∧ c ≤ maxLen) :
    Calls Try.prog 14 #[.slice A n c] w (FewS w) := by
  obtain ⟨i0, hi0, hz0, hz1, hz2⟩ := info_parts step_info
  obtain ⟨m1, m2⟩ := hc
  unfold maxLen at m2
  have HR := Lib.hid hr
  clear hr
  go_enter Try.func14, Try.ntmps14
  go_wp2_with fail
  go_loopg [3, 4] 20 (fun q v i wr => ∃ k : Nat, q = 20 - k ∧ k ≤ 20 ∧ k ≤ n ∧ i = .int .i64 k ∧ ∃ S, wr.ownsRow w.heap.size 94 5 v k (iv S) ∧ okS S k ∧ Below w.heap.size w wr)
  case atStart => exact ⟨0, rfl, by omega, by omega, rfl, [], own_new w 94 5, fun j hj => by omega, (by repeat (first | with_reducible exact Below.refl _ _ | with_reducible assumption | with_reducible refine Below.setCell ?_ (by first | omega | (simp <;> omega)) _ | with_reducible refine below_drewN ?_ _ | with_reducible refine Below.drew ?_ | with_reducible refine Below.alloc ?_ (by first | omega | (simp <;> omega)) _))⟩
  case round =>
    obtain ⟨k, rfl, hk, hkn, rfl, S, ho, hS, kb⟩ := hrel
    obtain ⟨Av, cv, rfl, -⟩ := own_slice ho
    have hks := kb.size
    have hlen : S.length = k * 5 := by have := ho.1; simpa [iv] using this
    have HS := Lib.hid hS
    clear hS
    by_cases hlt : k < n
    · by_cases h20 : k < 20
      · obtain ⟨b, off, rfl, hb, q0, q1, q2, q3, q4⟩ := reads5 (HR.out.below (kb.mono hB)) hlt
        generalize Z.getD (k * 5) 0 = s0 at *
        generalize Z.getD (k * 5 + 1) 0 = s1 at *
        generalize Z.getD (k * 5 + 2) 0 = s2 at *
        generalize Z.getD (k * 5 + 3) 0 = s3 at *
        generalize Z.getD (k * 5 + 4) 0 = s4 at *
        have h20' : (k : Int) < 20 := by omega
        by_cases c1 : s4 < 0
        · skip
          have hrx : Reads ((wr.alloc (.cells #[.int .i64 s0, .int .i64 s1, .int .i64 s2, .int .i64 s3, .int .i64 3] 94)).alloc (.cells #[.int .i64 s0, .int .i64 s1, .int .i64 s2, .int .i64 s3, .int .i64 3] 94)) ((wr.alloc (.cells #[.int .i64 s0, .int .i64 s1, .int .i64 s2, .int .i64 s3, .int .i64 3] 94)).alloc (.cells #[.int .i64 s0, .int .i64 s1, .int .i64 s2, .int .i64 s3, .int .i64 3] 94)).heap.size 5 (some ⟨wr.heap.size + 1, 0, none⟩) 1 (iv [s0, s1, s2, s3, 3]) := by
            have h := Reads.of_own (base := 0) (e := 94) (c := 1) (World.ownsRow_lit (size := 5) (e := 94) (wr.alloc (.cells #[.int .i64 s0, .int .i64 s1, .int .i64 s2, .int .i64 s3, .int .i64 3] 94)) #[.int .i64 s0, .int .i64 s1, .int .i64 s2, .int .i64 s3, .int .i64 3] 1 (Nat.zero_le _) (by simp [maxLen]) rfl)
            have hs : (wr.alloc (.cells #[.int .i64 s0, .int .i64 s1, .int .i64 s2, .int .i64 s3, .int .i64 3] 94)).heap.size = wr.heap.size + 1 := by simp
            rw [hs] at h
            exact h
          have HRX := Lib.hid hrx
          clear hrx
          go_wp2_with (first
            | (at_builtin
               refine wpList_append_any _ rfl (.tmp 30) (.tmp 32) _ rfl w.heap.size 94 i0 _ 5 40 Try.underlying22 hi0 hz0 hz1 hz2 rfl (by omega) _ k (iv S) rfl
                 ((ho.alloc _).alloc _) _ _ 1 1 _ rfl HRX.out iv_one (by simp only [maxLen]; omega) (by omega) (by simp; omega) ?_
               intro v1 w1 hown1 hg1 hat1
               have HO1 := Lib.hid hown1
               have HG1 := Lib.hid hg1
               clear hown1 hg1 hat1)
            | fail)
          go_roundg (20 - (k + 1))
          case measure => omega
          case rel =>
            have h1 := HO1.out
            rw [iv_append] at h1
            exact ⟨k + 1, rfl, by omega, by omega, by go_num, S ++ [s0, s1, s2, s3, 3], h1, okS_snoc HS.out hlen (by omega), ((kb.alloc kb.size _).alloc (by simp; omega) _).grown HG1.out (by simp; omega) (own_lo ho)⟩
        by_cases c2 : 50 < s4
        · skip
          have hrx : Reads ((wr.alloc (.cells #[.int .i64 s0, .int .i64 s1, .int .i64 s2, .int .i64 s3, .int .i64 3] 94)).alloc (.cells #[.int .i64 s0, .int .i64 s1, .int .i64 s2, .int .i64 s3, .int .i64 3] 94)) ((wr.alloc (.cells #[.int .i64 s0, .int .i64 s1, .int .i64 s2, .int .i64 s3, .int .i64 3] 94)).alloc (.cells #[.int .i64 s0, .int .i64 s1, .int .i64 s2, .int .i64 s3, .int .i64 3] 94)).heap.size 5 (some ⟨wr.heap.size + 1, 0, none⟩) 1 (iv [s0, s1, s2, s3, 3]) := by
            have h := Reads.of_own (base := 0) (e := 94) (c := 1) (World.ownsRow_lit (size := 5) (e := 94) (wr.alloc (.cells #[.int .i64 s0, .int .i64 s1, .int .i64 s2, .int .i64 s3, .int .i64 3] 94)) #[.int .i64 s0, .int .i64 s1, .int .i64 s2, .int .i64 s3, .int .i64 3] 1 (Nat.zero_le _) (by simp [maxLen]) rfl)
            have hs : (wr.alloc (.cells #[.int .i64 s0, .int .i64 s1, .int .i64 s2, .int .i64 s3, .int .i64 3] 94)).heap.size = wr.heap.size + 1 := by simp
            rw [hs] at h
            exact h
          have HRX := Lib.hid hrx
          clear hrx
          go_wp2_with (first
            | (at_builtin
               refine wpList_append_any _ rfl (.tmp 30) (.tmp 32) _ rfl w.heap.size 94 i0 _ 5 40 Try.underlying22 hi0 hz0 hz1 hz2 rfl (by omega) _ k (iv S) rfl
                 ((ho.alloc _).alloc _) _ _ 1 1 _ rfl HRX.out iv_one (by simp only [maxLen]; omega) (by omega) (by simp; omega) ?_
               intro v1 w1 hown1 hg1 hat1
               have HO1 := Lib.hid hown1
               have HG1 := Lib.hid hg1
               clear hown1 hg1 hat1)
            | fail)
          go_roundg (20 - (k + 1))
          case measure => omega
          case rel =>
            have h1 := HO1.out
            rw [iv_append] at h1
            exact ⟨k + 1, rfl, by omega, by omega, by go_num, S ++ [s0, s1, s2, s3, 3], h1, okS_snoc HS.out hlen (by omega), ((kb.alloc kb.size _).alloc (by simp; omega) _).grown HG1.out (by simp; omega) (own_lo ho)⟩
        · skip
          have hrx : Reads ((wr.alloc (.cells #[.int .i64 s0, .int .i64 s1, .int .i64 s2, .int .i64 s3, .int .i64 s4] 94)).alloc (.cells #[.int .i64 s0, .int .i64 s1, .int .i64 s2, .int .i64 s3, .int .i64 s4] 94)) ((wr.alloc (.cells #[.int .i64 s0, .int .i64 s1, .int .i64 s2, .int .i64 s3, .int .i64 s4] 94)).alloc (.cells #[.int .i64 s0, .int .i64 s1, .int .i64 s2, .int .i64 s3, .int .i64 s4] 94)).heap.size 5 (some ⟨wr.heap.size + 1, 0, none⟩) 1 (iv [s0, s1, s2, s3, s4]) := by
            have h := Reads.of_own (base := 0) (e := 94) (c := 1) (World.ownsRow_lit (size := 5) (e := 94) (wr.alloc (.cells #[.int .i64 s0, .int .i64 s1, .int .i64 s2, .int .i64 s3, .int .i64 s4] 94)) #[.int .i64 s0, .int .i64 s1, .int .i64 s2, .int .i64 s3, .int .i64 s4] 1 (Nat.zero_le _) (by simp [maxLen]) rfl)
            have hs : (wr.alloc (.cells #[.int .i64 s0, .int .i64 s1, .int .i64 s2, .int .i64 s3, .int .i64 s4] 94)).heap.size = wr.heap.size + 1 := by simp
            rw [hs] at h
            exact h
          have HRX := Lib.hid hrx
          clear hrx
          go_wp2_with (first
            | (at_builtin
               refine wpList_append_any _ rfl (.tmp 30) (.tmp 32) _ rfl w.heap.size 94 i0 _ 5 40 Try.underlying22 hi0 hz0 hz1 hz2 rfl (by omega) _ k (iv S) rfl
                 ((ho.alloc _).alloc _) _ _ 1 1 _ rfl HRX.out iv_one (by simp only [maxLen]; omega) (by omega) (by simp; omega) ?_
               intro v1 w1 hown1 hg1 hat1
               have HO1 := Lib.hid hown1
               have HG1 := Lib.hid hg1
               clear hown1 hg1 hat1)
            | fail)
          go_roundg (20 - (k + 1))
          case measure => omega
          case rel =>
            have h1 := HO1.out
            rw [iv_append] at h1
            exact ⟨k + 1, rfl, by omega, by omega, by go_num, S ++ [s0, s1, s2, s3, s4], h1, okS_snoc HS.out hlen (by omega), ((kb.alloc kb.size _).alloc (by simp; omega) _).grown HG1.out (by simp; omega) (own_lo ho)⟩
      · obtain rfl : k = 20 := by omega
        go_wp2_with fail
        go_ret
        exact ⟨_, _, _, S, rfl, ho, HS.out, by omega, kb⟩
    · obtain rfl : k = n := by omega
      go_wp2_with fail
      go_ret
      exact ⟨_, _, _, S, rfl, ho, HS.out, by omega, kb⟩
end Go.Proofs.Ytmmmhkpekaimeaa
