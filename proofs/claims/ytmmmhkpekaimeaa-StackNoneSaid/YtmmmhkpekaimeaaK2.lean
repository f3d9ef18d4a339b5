/- Numbers cut, in memory of their own; the walk of no stack; what lives (layer 10). -/
import Derived.Test.YtmmmhkpekaimeaaK1
import Derived.Deep.AppendLies
set_option linter.unusedVariables false
namespace Go.Proofs.Ytmmmhkpekaimeaa
open Go.ChangeShapes Go.WideShapes Go.ChangeAt Go.RowKit
def FewP (k : Nat) (l : List Int) (w : World) (e : Ending) (w' : World) : Prop := ∃ v', e = .returned v' ∧ w'.ownsRow w.heap.size 3 1 v' k (iv l) ∧ Below w.heap.size w w'
set_option maxRecDepth 100000 in
set_option maxHeartbeats 2000000 in
theorem few_long (A : Option Addr) (n c m : Nat) (zs : List Int) (w : World) (r : Reads w w.heap.size 1 A n (iv zs)) (hc : n ≤ c ∧ c ≤ maxLen) (hm : m ≤ 65536) (hn : m < n) :
    Calls Try.prog 42 #[.slice A n c, .int .i64 m] w (FewP m (zs.take m) w) := by
  obtain ⟨i0, hi0, hz0, hz1, hz2⟩ := info_parts int_info
  obtain ⟨m1, m2⟩ := hc
  unfold maxLen at m2
  have h60 : (m : Int) < n := by omega
  have hr' := (r.take m (by omega)).alloc (Nat.le_refl _) (.cells #[] 3)
  have H1 := Lib.hid hr'
  clear hr' r
  go_enter Try.func42, Try.ntmps42
  go_wp2_with (first
    | (at_builtin
       refine wpList_append_any _ rfl (.tmp 12) (.tmp 13) _ rfl w.heap.size 3 i0 _ 1 8 Try.underlying45 hi0 hz0 hz1 hz2 rfl (by omega) (.slice (some ⟨w.heap.size, 0, none⟩) 0 0) 0 [] rfl
         (own_new w 3 1) w.heap.size A m c _ rfl H1.out iv_one (by simp only [maxLen]; omega) (by omega) (by simp) ?_
       intro v1 w1 hown1 hg1 hat1
       have HO := Lib.hid hown1
       have HG := Lib.hid hg1
       clear hown1 hg1 hat1)
    | fail)
  go_ret
  have ho := HO.out
  simp only [Nat.zero_add, List.nil_append] at ho
  refine ⟨v1, rfl, by simpa using ho, ((Below.refl _ _).alloc (Nat.le_refl _) _).grown HG.out (by simp) (by simp [Value.ownBlock])⟩
set_option maxRecDepth 100000 in
set_option maxHeartbeats 2000000 in
theorem few_short (A : Option Addr) (n c m : Nat) (zs : List Int) (w : World) (r : Reads w w.heap.size 1 A n (iv zs)) (hc : n ≤ c ∧ c ≤ maxLen) (hm : m ≤ 65536) (hn : n ≤ m) :
    Calls Try.prog 42 #[.slice A n c, .int .i64 m] w (FewP n (zs) w) := by
  obtain ⟨i0, hi0, hz0, hz1, hz2⟩ := info_parts int_info
  obtain ⟨m1, m2⟩ := hc
  unfold maxLen at m2
  have h60 : ¬ (m : Int) < n := by omega
  have hr' := r.alloc (Nat.le_refl _) (.cells #[] 3)
  have H1 := Lib.hid hr'
  clear hr' r
  go_enter Try.func42, Try.ntmps42
  go_wp2_with (first
    | (at_builtin
       refine wpList_append_any _ rfl (.tmp 12) (.tmp 13) _ rfl w.heap.size 3 i0 _ 1 8 Try.underlying45 hi0 hz0 hz1 hz2 rfl (by omega) (.slice (some ⟨w.heap.size, 0, none⟩) 0 0) 0 [] rfl
         (own_new w 3 1) w.heap.size A n c _ rfl H1.out iv_one (by simp only [maxLen]; omega) (by omega) (by simp) ?_
       intro v1 w1 hown1 hg1 hat1
       have HO := Lib.hid hown1
       have HG := Lib.hid hg1
       clear hown1 hg1 hat1)
    | fail)
  go_ret
  have ho := HO.out
  simp only [Nat.zero_add, List.nil_append] at ho
  refine ⟨v1, rfl, ho, ((Below.refl _ _).alloc (Nat.le_refl _) _).grown HG.out (by simp) (by simp [Value.ownBlock])⟩
set_option maxHeartbeats 2000000 in
theorem walk_nil (steps : Int) (f : Value) (w : World) : Calls Try.prog 51 #[.pointer none, .int .i64 steps, f] w fun e w' => e = .returned (.tuple #[.int .i64 0, .int .i64 1]) ∧ Below w.heap.size w w' := by
  go_enter Try.func51, Try.ntmps51
  go_wp2
  go_ret2
  exact ⟨rfl, (by repeat (first | with_reducible exact Below.refl _ _ | with_reducible assumption | with_reducible refine Below.setCell ?_ (by first | omega | (simp <;> omega)) _ | with_reducible refine below_drewN ?_ _ | with_reducible refine Below.drew ?_ | with_reducible refine Below.alloc ?_ (by first | omega | (simp <;> omega)) _))⟩
set_option maxRecDepth 100000 in
set_option maxHeartbeats 4000000 in
theorem lives10 (w : World) : Calls Try.prog 41 #[] w fun e w' => e = .returned (.bool true) ∧ Below w.heap.size w w' := by
  go_enter Try.func41, Try.ntmps41
  go_wp2_with fail
  refine (stk_new 3 (by omega) _).mono ?_
  rintro e w1 ⟨rfl, rfl⟩
  go_wp2_with fail
  have hb0 : Blk ((w.alloc (.cells #[.int .i64 3, .slice none 0 0] 113)).alloc (.cells #[.int .i64 1, .int .i64 2] 3)) w.heap.size 113 #[.int .i64 3, .slice none 0 0] := (Blk.new w 113 _).alloc _
  have hw : Below w.heap.size w ((w.alloc (.cells #[.int .i64 3, .slice none 0 0] 113)).alloc (.cells #[.int .i64 1, .int .i64 2] 3)) := (by repeat (first | with_reducible exact Below.refl _ _ | with_reducible assumption | with_reducible refine Below.setCell ?_ (by first | omega | (simp <;> omega)) _ | with_reducible refine below_drewN ?_ _ | with_reducible refine Below.drew ?_ | with_reducible refine Below.alloc ?_ (by first | omega | (simp <;> omega)) _))
  have hr : Reads ((w.alloc (.cells #[.int .i64 3, .slice none 0 0] 113)).alloc (.cells #[.int .i64 1, .int .i64 2] 3)) ((w.alloc (.cells #[.int .i64 3, .slice none 0 0] 113)).alloc (.cells #[.int .i64 1, .int .i64 2] 3)).heap.size 1 (some ⟨(w.alloc (.cells #[.int .i64 3, .slice none 0 0] 113)).heap.size, 0, none⟩) 2 (iv [1, 2]) :=
    Reads.of_own (base := 0) (e := 3) (c := 2) (World.ownsRow_lit (w.alloc (.cells #[.int .i64 3, .slice none 0 0] 113)) #[.int .i64 1, .int .i64 2] 2 (Nat.zero_le _) (by simp [maxLen]) rfl)
  have hgs : w.heap.size < ((w.alloc (.cells #[.int .i64 3, .slice none 0 0] 113)).alloc (.cells #[.int .i64 1, .int .i64 2] 3)).heap.size := hb0.lt
  have hsz : (w.alloc (.cells #[.int .i64 3, .slice none 0 0] 113)).heap.size = w.heap.size + 1 := by simp
  rw [hsz] at hr
  generalize (w.alloc (.cells #[.int .i64 3, .slice none 0 0] 113)).alloc (.cells #[.int .i64 1, .int .i64 2] 3) = W at *
  refine (stk_push w.heap.size w.heap.size 3 0 2 W.heap.size 2 (.slice none 0 0) _ [] [1, 2] W hb0 (World.ownsRow_nil _ _ _ _) hr (Nat.le_refl _) (by omega) (by omega) (by omega) (by omega)).mono ?_
  intro e w2 hP
  obtain ⟨rfl, v', hb2, ho2, hat, hon⟩ := hP
  obtain ⟨b, c, rfl, hbb, hbl⟩ := ho2.form (by omega)
  obtain ⟨_, _, _, hv, _, _, hnc, hcm, _⟩ := ho2.2.resolve_left (by simp)
  cases hv
  have hb2' : Blk w2 w.heap.size 113 #[.int .i64 3, .slice (some ⟨b, 0, none⟩) (1 + 1) c] := hb2
  have ho2' : w2.ownsRow w.heap.size 3 1 (.slice (some ⟨b, 0, none⟩) (1 + 1) c) (1 + 1) (iv [1, 2]) := ho2
  have K2 : Below w.heap.size w w2 := hw.trans (hon.below (by omega) (fun i hi h => by
    rcases h with h | h
    · omega
    · simp [Value.ownBlock] at h))
  clear hb0 hr hat hon hb2 ho2 hw
  go_wp2_with fail
  refine (stk_pop w.heap.size w.heap.size 3 1 c b [1, 2] w2 hb2' ho2' ⟨hnc, hcm⟩).mono ?_
  intro e w3 hP
  obtain ⟨rfl, hb3, ho3, hon3⟩ := hP
  have K3 : Below w.heap.size w w3 := K2.trans (hon3.below K2.size (fun i hi h => by omega))
  have HB3 := Lib.hid hb3
  clear hb2' ho2' hb3 ho3 hon3 K2
  go_wp2_with (go_at_call 50; refine (stk_len w.heap.size 1 c _ _ _ HB3.out).mono ?_; rintro e w' ⟨rfl, rfl⟩)
  go_ret
  exact ⟨rfl, K3⟩
end Go.Proofs.Ytmmmhkpekaimeaa
