/- The document's queue (layer 11): one goes. -/
import Derived.Test.YtmomafhpbbmiaaaR9
set_option linter.unusedVariables false
namespace Go.Proofs.Ytmomafhpbbmiaaa
open Go.ChangeShapes Go.WideShapes Go.ChangeAt Go.RowKit
set_option maxRecDepth 100000 in
set_option maxHeartbeats 4000000 in
theorem rdrop_a (b off n c B a : Nat) (L : List Int) (v : Int) (w : World) (hr : Reads w B 1 (some ⟨b, off, none⟩) n (iv L)) (hB : B ≤ w.heap.size) (hn : n ≤ 100000) (hnc : n ≤ c) (hcm : c ≤ maxLen) (hv : idx L v = (a : Nat)) (ha : a < n) (hc : c = a + 1) :
    Calls Try.prog 14 #[.slice (some ⟨b, off, none⟩) n c, .int .i64 v] w fun e w' => ∃ u, e = .returned u ∧ Fresh w w' u (L.eraseIdx a) ∧ Only (fun _ => False) w w' := by
  obtain ⟨i0, hi0, hz0, hz1, hz2⟩ := info_parts int_info
  have C := at_any (some ⟨b, off, none⟩) n c B L v w hr (by simp only [maxLen]; omega)
  rw [hv] at C
  have hl := hr.len
  have HC := Lib.hid C
  have HL := Lib.hid hl
  have r1 : Reads w B 1 (some ⟨b, off, none⟩) a (iv (L.take a)) := by
    have h := Reads.take (zs := L) hr a (by omega)
    rwa [Nat.mul_one] at h
  have r2 : Reads w B 1 (some ⟨b, off, none⟩) (n - (a + 1)) (iv (L.drop (a + 1))) := by
    have h := hr.cut (k := a + 1) (cap := c) (by omega) hnc
    have e1 : (iv L).drop ((a + 1) * 1) = iv (L.drop (a + 1)) := by simp [iv, List.map_drop]
    rw [e1] at h
    rw [if_pos hc] at h
    
    exact h
  have HR1 : ∀ V, Only (fun i => w.heap.size ≤ i) w V → Reads V B 1 (some ⟨b, off, none⟩) a (iv (L.take a)) := fun V h => h.reads r1 hB (fun i hi h => by omega)
  have HR2 : ∀ V, Only (fun i => w.heap.size ≤ i) w V → Reads V B 1 (some ⟨b, off, none⟩) (n - (a + 1)) (iv (L.drop (a + 1))) := fun V h => h.reads r2 hB (fun i hi h => by omega)
  have HHR1 := Lib.hid HR1
  have HHR2 := Lib.hid HR2
  have s1 : IntKind.i64.wrap ((a : Int) + 1) = (a : Int) + 1 := IntWalk.i64_in _ (by omega)
  have j1 : (0 : Int) ≤ (a : Int) := by omega
  have j2 : (a : Int) ≤ (c : Int) := by omega
  have j3 : (0 : Int) ≤ (a : Int) + 1 := by omega
  have j4 : (a : Int) + 1 ≤ (n : Int) := by omega
  have j5 : ((a : Int) + 1).toNat = a + 1 := by omega
  have hcm' : c ≤ 9223372036854775807 := by simpa [maxLen] using hcm
  obtain rfl : n = c := by omega
  subst hc
  have j6 : (a : Int) ≤ (a : Int) + 1 := by omega
  have HHR3 : Hid (∀ V, Only (fun i => w.heap.size ≤ i) w V → Reads V B 1 (some ⟨b, off, none⟩) 0 (iv (L.drop (a + 1)))) := Lib.hid (fun V h => by have := HHR2.out V h; rwa [Nat.sub_self] at this)
  clear HHR2
  clear C hr hl r1 r2 HR1 HR2 hcm
  go_enter Try.func14, Try.ntmps14
  go_wp2_with (go_at_call 13; refine (HC.out).mono ?_; rintro e w' ⟨rfl, rfl⟩)
  go_region_held3 (fun w' => True) (trivial) (first
    | (refine step_append_any _ rfl (.tmp 12) (.tmp 15) _ rfl w.heap.size 3 i0 _ 1 8 Try.underlying28 hi0 hz0 hz1 hz2 rfl (by omega) (.slice (some ⟨w.heap.size, 0, none⟩) 0 0) 0 (iv []) rfl (own_new w.drew 3 1) B _ a _ (iv (L.take a)) rfl (HHR1.out _ (((Only.refl _ w).drew).alloc _)) iv_one (by simp only [maxLen]; omega) (by omega) (by simp) ?_
       intro v1 w1 hown1 hg1 hat1
       rw [Nat.zero_add, iv_append, List.nil_append] at hown1
       obtain ⟨A2, c2, rfl, hr2⟩ := own_slice hown1
       clear hr2
       have q2 : Hid (Only (fun i => w.heap.size ≤ i) w w1) := Lib.hid ((((Only.refl _ w).drew).alloc _).trans (Only.of_grown (S := fun i => w.heap.size ≤ i) hg1 (fun i hi => by cases hi; exact Nat.le_refl _)) (fun _ _ h => h))
       have q3 := Lib.hid hown1
       clear hown1 hg1 hat1)
    | (refine step_append_any _ rfl (.tmp 16) (.tmp 20) _ rfl w.heap.size 3 i0 _ 1 8 Try.underlying28 hi0 hz0 hz1 hz2 rfl (by omega) (.slice A2 a c2) a (iv (L.take a)) rfl q3.out B _ _ _ (iv (L.drop (a + 1))) rfl (HHR3.out _ q2.out) iv_one (by simp only [maxLen]; omega) (by omega) (by have := q2.out.size; omega) ?_
       intro v2 w2 hown2 hg2 hat2
       rw [iv_append] at hown2
       have q6 : Hid (Only (fun i => w.heap.size ≤ i) w w2) := Lib.hid (q2.out.trans (Only.of_grown (S := fun i => w.heap.size ≤ i) hg2 (fun i hi => (q3.out.lt i hi.symm).1)) (fun _ _ h => h))
       have q7 := Lib.hid hown2
       clear hown2 hg2 hat2))
  go_wp2_with fail
  go_ret
  refine ⟨v2, rfl, ?_, q6.out.mono (fun i hi h => by omega)⟩
  unfold Fresh
  have hl := HL.out
  have e1 : (L.eraseIdx a).length = a + (a + 1 - (a + 1)) := by rw [List.length_eraseIdx, if_pos (by omega)]; omega
  rw [e1, List.eraseIdx_eq_take_drop_succ]
  rw [Nat.sub_self]
  exact q7.out
set_option maxRecDepth 100000 in
set_option maxHeartbeats 4000000 in
theorem rdrop_b (b off n c B a : Nat) (L : List Int) (v : Int) (w : World) (hr : Reads w B 1 (some ⟨b, off, none⟩) n (iv L)) (hB : B ≤ w.heap.size) (hn : n ≤ 100000) (hnc : n ≤ c) (hcm : c ≤ maxLen) (hv : idx L v = (a : Nat)) (ha : a < n) (hc : ¬ c = a + 1) :
    Calls Try.prog 14 #[.slice (some ⟨b, off, none⟩) n c, .int .i64 v] w fun e w' => ∃ u, e = .returned u ∧ Fresh w w' u (L.eraseIdx a) ∧ Only (fun _ => False) w w' := by
  obtain ⟨i0, hi0, hz0, hz1, hz2⟩ := info_parts int_info
  have C := at_any (some ⟨b, off, none⟩) n c B L v w hr (by simp only [maxLen]; omega)
  rw [hv] at C
  have hl := hr.len
  have HC := Lib.hid C
  have HL := Lib.hid hl
  have r1 : Reads w B 1 (some ⟨b, off, none⟩) a (iv (L.take a)) := by
    have h := Reads.take (zs := L) hr a (by omega)
    rwa [Nat.mul_one] at h
  have r2 : Reads w B 1 (some ⟨b, off + (a + 1), none⟩) (n - (a + 1)) (iv (L.drop (a + 1))) := by
    have h := hr.cut (k := a + 1) (cap := c) (by omega) hnc
    have e1 : (iv L).drop ((a + 1) * 1) = iv (L.drop (a + 1)) := by simp [iv, List.map_drop]
    rw [e1] at h
    rw [if_neg hc] at h
    have e2 : (some (⟨b, off, none⟩ : Addr)).map (·.add ((a + 1) * 1)) = some ⟨b, off + (a + 1), none⟩ := by
      simp only [Option.map_some, Option.some.injEq, Nat.mul_one]
      unfold Addr.add
      rw [if_neg (by omega)]
    rw [e2] at h
    exact h
  have HR1 : ∀ V, Only (fun i => w.heap.size ≤ i) w V → Reads V B 1 (some ⟨b, off, none⟩) a (iv (L.take a)) := fun V h => h.reads r1 hB (fun i hi h => by omega)
  have HR2 : ∀ V, Only (fun i => w.heap.size ≤ i) w V → Reads V B 1 (some ⟨b, off + (a + 1), none⟩) (n - (a + 1)) (iv (L.drop (a + 1))) := fun V h => h.reads r2 hB (fun i hi h => by omega)
  have HHR1 := Lib.hid HR1
  have HHR2 := Lib.hid HR2
  have s1 : IntKind.i64.wrap ((a : Int) + 1) = (a : Int) + 1 := IntWalk.i64_in _ (by omega)
  have j1 : (0 : Int) ≤ (a : Int) := by omega
  have j2 : (a : Int) ≤ (c : Int) := by omega
  have j3 : (0 : Int) ≤ (a : Int) + 1 := by omega
  have j4 : (a : Int) + 1 ≤ (n : Int) := by omega
  have j5 : ((a : Int) + 1).toNat = a + 1 := by omega
  have hcm' : c ≤ 9223372036854775807 := by simpa [maxLen] using hcm
  have HHR3 := HHR2
  clear C hr hl r1 r2 HR1 HR2 hcm
  go_enter Try.func14, Try.ntmps14
  go_wp2_with (go_at_call 13; refine (HC.out).mono ?_; rintro e w' ⟨rfl, rfl⟩)
  go_region_held3 (fun w' => True) (trivial) (first
    | (refine step_append_any _ rfl (.tmp 12) (.tmp 15) _ rfl w.heap.size 3 i0 _ 1 8 Try.underlying28 hi0 hz0 hz1 hz2 rfl (by omega) (.slice (some ⟨w.heap.size, 0, none⟩) 0 0) 0 (iv []) rfl (own_new w.drew 3 1) B _ a _ (iv (L.take a)) rfl (HHR1.out _ (((Only.refl _ w).drew).alloc _)) iv_one (by simp only [maxLen]; omega) (by omega) (by simp) ?_
       intro v1 w1 hown1 hg1 hat1
       rw [Nat.zero_add, iv_append, List.nil_append] at hown1
       obtain ⟨A2, c2, rfl, hr2⟩ := own_slice hown1
       clear hr2
       have q2 : Hid (Only (fun i => w.heap.size ≤ i) w w1) := Lib.hid ((((Only.refl _ w).drew).alloc _).trans (Only.of_grown (S := fun i => w.heap.size ≤ i) hg1 (fun i hi => by cases hi; exact Nat.le_refl _)) (fun _ _ h => h))
       have q3 := Lib.hid hown1
       clear hown1 hg1 hat1)
    | (refine step_append_any _ rfl (.tmp 16) (.tmp 20) _ rfl w.heap.size 3 i0 _ 1 8 Try.underlying28 hi0 hz0 hz1 hz2 rfl (by omega) (.slice A2 a c2) a (iv (L.take a)) rfl q3.out B _ _ _ (iv (L.drop (a + 1))) rfl (HHR3.out _ q2.out) iv_one (by simp only [maxLen]; omega) (by omega) (by have := q2.out.size; omega) ?_
       intro v2 w2 hown2 hg2 hat2
       rw [iv_append] at hown2
       have q6 : Hid (Only (fun i => w.heap.size ≤ i) w w2) := Lib.hid (q2.out.trans (Only.of_grown (S := fun i => w.heap.size ≤ i) hg2 (fun i hi => (q3.out.lt i hi.symm).1)) (fun _ _ h => h))
       have q7 := Lib.hid hown2
       clear hown2 hg2 hat2))
  go_wp2_with fail
  go_ret
  refine ⟨v2, rfl, ?_, q6.out.mono (fun i hi h => by omega)⟩
  unfold Fresh
  have hl := HL.out
  have e1 : (L.eraseIdx a).length = a + (n - (a + 1)) := by rw [List.length_eraseIdx, if_pos (by omega)]; omega
  rw [e1, List.eraseIdx_eq_take_drop_succ]
  
  exact q7.out
theorem rdrop_yes (A : Option Addr) (n c B a : Nat) (L : List Int) (v : Int) (w : World) (hr : Reads w B 1 A n (iv L)) (hB : B ≤ w.heap.size) (hn : n ≤ 100000) (hnc : n ≤ c) (hcm : c ≤ maxLen) (hv : idx L v = (a : Nat)) :
    Calls Try.prog 14 #[.slice A n c, .int .i64 v] w fun e w' => ∃ u, e = .returned u ∧ Fresh w w' u (L.eraseIdx a) ∧ Only (fun _ => False) w w' := by
  have hl := hr.len
  have hbd := idx_bd L v
  obtain ⟨b, off, rfl, _, _⟩ := hr.head (by omega) (by omega)
  by_cases hc : c = a + 1
  · exact rdrop_a b off n c B a L v w hr hB hn hnc hcm hv (by omega) hc
  · exact rdrop_b b off n c B a L v w hr hB hn hnc hcm hv (by omega) hc
end Go.Proofs.Ytmomafhpbbmiaaa
