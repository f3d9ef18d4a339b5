/- CodecNumbers: bytes of at most 30 (layer 29). -/
import Derived.Test.YtencgokpbfkeiaaCw
import Derived.Test.YtencgokpbfkeiaaCj
set_option linter.unusedVariables false
set_option linter.unusedSimpArgs false
namespace Go.Proofs.Ytencgokpbfkeiaa
open Go.ChangeShapes Go.WideShapes Go.ChangeAt Go.RowKit
theorem own_base {w : World} {base n i : Nat} {e : TypeId} {v : Value} {xs : List Value} {size : Nat} (h : w.ownsRow base e size v n xs) (hi : v.ownBlock = some i) : base ≤ i := by
  rcases h.2 with ⟨rfl, -⟩ | ⟨g, _, _, rfl, hb, _⟩
  · cases hi
  · cases hi; exact hb
set_option maxRecDepth 100000 in
set_option maxHeartbeats 8000000 in
theorem numbers_way0 (A1 : Option Addr) (n1 c1 : Nat) (l1 : List Int) (v : Int) (hv : -9223372036854775808 ≤ v ∧ v ≤ 9223372036854775807) (w : World) (hr : Reads w w.heap.size 1 A1 n1 (kv .u8 l1)) (ho : okK .u8 l1) (hn : n1 ≤ 30) (hnc : n1 ≤ c1 ∧ c1 ≤ maxLen) : Calls Try.prog 8 #[.slice A1 n1 c1, .int .i64 v] w fun e w' => e = .returned (.bool true) ∧ Below w.heap.size w w' := by
  have t9 : decide ((30 : Int) < (n1 : Int)) = false := by simp; omega
  have HN : Hid (n1 ≤ 30 ∧ n1 ≤ c1 ∧ c1 ≤ maxLen) := Lib.hid ⟨hn, hnc⟩
  have HL : Hid (∀ W, Below w.heap.size w W → Reads W w.heap.size 1 A1 n1 (kv .u8 l1)) := Lib.hid (fun W hW => hr.below hW)
  have HOK := Lib.hid ho
  obtain ⟨V, hV⟩ : ∃ V, V = vint v := ⟨_, rfl⟩
  obtain ⟨m, hm⟩ : ∃ m, m = V.length := ⟨_, rfl⟩
  have HMm : Hid (1 ≤ m ∧ m ≤ 10) := Lib.hid (by rw [hm, hV]; exact ⟨vb_pos _, vint_len hv⟩)
  have HVB : Hid (∀ z ∈ V, 0 ≤ z ∧ z < 256) := Lib.hid (by rw [hV]; exact vb_bytes _)
  have HRV : Hid (∀ rest, rd 0 0 (V ++ rest) = some (zig v, m)) := Lib.hid (fun rest => by rw [hm, hV]; exact rd_vint v rest hv)
  have HCI : Hid (∀ A n c l W, Reads W W.heap.size 1 A n (kv .u8 l) → n ≤ 1000000 → Calls Try.prog 38 #[.slice A n c, .int .i64 v] W fun e w' => ∃ A' c', e = .returned (.slice A' (n + m) c') ∧ Row8 w' W.heap.size (.slice A' (n + m) c') (n + m) (l ++ V) ∧ Below W.heap.size W w') := Lib.hid (fun A n c l W h1 h2 => by rw [hm, hV]; exact cint_any A n c l v W h1 hv h2)
  have HRI : Hid (∀ base A n c l W, base ≤ W.heap.size → Row8 W base (.slice A n c) n l → n ≤ 1000000 → Calls Try.prog 39 #[.slice A n c, .int .i64 v] W fun e w' => ∃ A' c', e = .returned (.slice A' (n + m) c') ∧ Row8 w' base (.slice A' (n + m) c') (n + m) (l ++ V) ∧ OwnP W w' A n c A' (n + m) c') := Lib.hid (fun base A n c l W h1 h2 h3 => by rw [hm, hV]; exact rint_own base A n c l v W h1 h2 hv h3)
  have HRI0 : Hid (∀ base A n c l W, base ≤ W.heap.size → Row8 W base (.slice A n c) n l → n ≤ 0 → Calls Try.prog 39 #[.slice A n c, .int .i64 v] W fun e w' => ∃ A' c', e = .returned (.slice A' m c') ∧ Row8 w' base (.slice A' m c') m V ∧ OwnP W w' A n c A' m c') := Lib.hid (fun base A n c l W h1 h2 h3 => by
    have h4 : n = 0 := by omega
    subst h4
    have h5 : l = [] := List.eq_nil_of_length_eq_zero (by have := h2.1; simpa [kv] using this)
    subst h5
    refine (HRI.out base A 0 c [] W h1 h2 (by omega)).mono ?_
    rintro e w' ⟨A', c', h7, h8, h9⟩
    rw [Nat.zero_add] at h7 h8 h9
    rw [List.nil_append] at h8
    exact ⟨A', c', h7, h8, h9⟩)
  have HBY : Hid (∀ z ∈ l1, 0 ≤ z ∧ z < 256) := Lib.hid (fun z hz => by have := bounds_u8 (HOK.out z hz); omega)
  have r3 : Hid (n1 ≤ 30 ∧ m ≤ 10) := Lib.hid ⟨HN.out.1, HMm.out.2⟩
  have HRD : Hid (∀ A c W, Reads W W.heap.size 1 A (m + n1) (kv .u8 (V ++ l1)) → Calls Try.prog 40 #[.slice A (m + n1) c] W fun e w' => e = .returned (.tuple #[.int .i64 v, .int .i64 (m : Int)]) ∧ W = w') := Lib.hid (fun A c W h => by
    have h2 := read_any A (m + n1) c W.heap.size (V ++ l1) W h (fun z hz => wf_of_u8 ((List.mem_append.1 hz).elim (HVB.out z) (HBY.out z))) (by have := r3.out; simp only [maxLen]; omega)
    rw [HRV.out l1] at h2
    have h3 : told (some (zig v, m)) = (v, (m : Int)) := by simp [told, zag_zig]
    rw [h3] at h2
    exact h2)
  have HRD1 : Hid (∀ A c W, Reads W W.heap.size 1 A n1 (kv .u8 l1) → Calls Try.prog 40 #[.slice A n1 c] W fun e w' => e = .returned (.tuple #[.int .i64 (told (rd 0 0 l1)).1, .int .i64 (told (rd 0 0 l1)).2]) ∧ W = w') := Lib.hid (fun A c W h => read_any A n1 c W.heap.size l1 W h HOK.out (by have := r3.out; simp only [maxLen]; omega))
  clear hr ho hn hnc hv hV hm
  go_enter Try.func8, Try.ntmps8
  go_upto_region 3 with fail
  obtain ⟨i0, hi0, hz0, hz1, hz2⟩ := u8_parts
  have r1 : Hid ((w.alloc (.cells #[] 5)).ownsRow w.heap.size 5 1 (.slice (some ⟨w.heap.size, 0, none⟩) 0 0) 0 (kv .u8 [])) := Lib.hid (own_new w 5 1)
  have r2 : Hid (Reads (w.alloc (.cells #[] 5)) w.heap.size 1 A1 n1 (kv .u8 l1)) := Lib.hid (HL.out _ (((Mem.start (fun _ => False) w).new 5 []).to_below (fun _ _ h => h)))
  go_wp2_with (first
    | (at_builtin
       refine wpList_append_any _ rfl (.tmp 16) (.tmp 17) _ rfl w.heap.size 5 i0 _ 1 1 Try.underlying58 hi0 hz0 hz1 hz2 rfl (by omega) (.slice (some ⟨w.heap.size, 0, none⟩) 0 0) _ (kv .u8 []) rfl r1.out _ A1 n1 c1 (kv .u8 l1) rfl (r2.out) kv_one (by have := r3.out; simp only [maxLen]; omega) (by have := r3.out; omega) (by simp) ?_
       intro v1 w1 hown1 hg1 hat1
       rw [kv_append, Nat.zero_add, List.nil_append] at hown1
       obtain ⟨A2, c2, rfl, hr2⟩ := own_slice hown1
       have hb1 : Hid (Below w.heap.size w w1) := Lib.hid ((((Only.refl (fun i => w.heap.size ≤ i) w).alloc _).trans (Only.of_grown (S := fun i => w.heap.size ≤ i) hg1 (fun i hi => by simp [Value.ownBlock] at hi; omega)) (fun _ _ h => h)).below (Nat.le_refl _) (fun i hi h => by omega))
       have HR2 := Lib.hid (row8_reads hown1)
       clear hown1 hg1 hat1 hr2
       try simp only [Act.put, List.setIfInBounds_toArray, List.set_cons_zero, List.set_cons_succ])
    | (go_at_call 38
       refine (HCI.out A2 n1 c2 l1 w1 HR2.out (by have := r3.out; omega)).mono ?_
       rintro e w3 ⟨A3, c3, rfl, hrow3, hb3⟩
       have HB3 : Hid (Below w.heap.size w w3) := Lib.hid (hb1.out.trans (hb3.mono hb1.out.size))
       have HR3 := Lib.hid (row8_reads hrow3)
       clear hrow3 hb3 hb1 HR2)
    | fail)
  clear r1 r2
  have HM : Hid (Mem (fun _ => False) w3 [] w3) := Lib.hid (Mem.start _ w3)
  obtain ⟨S3, hS3⟩ : ∃ S3, strOfNums (l1 ++ V) = S3 := ⟨_, rfl⟩
  have HS3 := Lib.hid hS3
  clear hS3
  have HC3 : Hid (∀ W, Below w3.heap.size w3 W → (convert 58 9 (.slice A3 (n1 + m) c3)).run Try.prog W = .ok (.string S3) W) := Lib.hid (fun W hW => by rw [← HS3.out]; exact conv_str (HR3.out.below hW))
  refine wp_region_noPanic ?_
  refine wp_region_held_drew (S := (fun w' => (convert 58 9 (.slice A3 (n1 + m) c3)).run Try.prog w' = .ok (.string S3) w')) (by kernel_rfl) ?_ (fun hHeld => ?_)
  · exact HC3.out _ (HM.out.to_below (fun _ _ h => h)).drew
  have hm := HM.out.drew
  clear HM
  have HM := Lib.hid hm
  clear hm
  refine wpAnyH_take (i := 0) (oi := ⟨_, _, _, _, _, _⟩) (v := ?_) rfl (by kernel_rfl) (by kernel_rfl) (by kernel_rfl) (fun _ _ _ h => h) (Or.inl ⟨by rfl, ?_⟩) (by assumption) ?_
  rotate_left
  · intro w hSw; (try dsimp only at hSw); go_split_ands; go_simp; try with_reducible rfl
  try simp only [Act.put, List.setIfInBounds_toArray, List.set_cons_zero, List.set_cons_succ]
  refine wpAnyH_take (i := 1) (oi := ⟨_, _, _, _, _, _⟩) (v := ?_) rfl (by kernel_rfl) (by kernel_rfl) (by kernel_rfl) (fun _ _ _ h => h) (Or.inl ⟨by rfl, ?_⟩) (by assumption) ?_
  rotate_left
  · intro w hSw; (try dsimp only at hSw); go_split_ands; go_simp; try with_reducible rfl
  try simp only [Act.put, List.setIfInBounds_toArray, List.set_cons_zero, List.set_cons_succ]
  refine wpAnyH_take (i := 3) (oi := ⟨_, _, _, _, _, _⟩) (v := ?_) rfl (by kernel_rfl) (by kernel_rfl) (by kernel_rfl) (fun _ _ _ h => h) (Or.inl ⟨by rfl, ?_⟩) (by assumption) ?_
  rotate_left
  · intro w hSw; (try dsimp only at hSw); go_split_ands; go_simp; try with_reducible rfl
  try simp only [Act.put, List.setIfInBounds_toArray, List.set_cons_zero, List.set_cons_succ]
  refine wpAnyH_take (i := 5) (oi := ⟨_, _, _, _, _, _⟩) (v := ?_) rfl (by kernel_rfl) (by kernel_rfl) (by kernel_rfl) (fun _ _ _ h => h) (Or.inl ⟨by rfl, ?_⟩) (by assumption) ?_
  rotate_left
  · intro w hSw; (try dsimp only at hSw); go_split_ands; go_simp; try with_reducible rfl
  try simp only [Act.put, List.setIfInBounds_toArray, List.set_cons_zero, List.set_cons_succ]
  refine wpAnyH_ready (rs := [2]) (by kernel_rfl) (by simp) ?_
  refine AllReadyH.cons (o := ⟨_, _, _, _, _, _⟩) rfl (fun K hK => ?_) AllReadyH.nil
  go_simp
  have hm := (HM.out.new 5 []).tail
  clear HM
  have HM := Lib.hid hm
  clear hm
  refine hK.out _ _ ?_ (fun hHeld => ?_)
  · exact HC3.out _ (HM.out.to_below (fun _ _ h => h))
  clear hK K
  try simp only [Act.put, List.setIfInBounds_toArray, List.set_cons_zero, List.set_cons_succ]
  refine wpAnyH_ready (rs := [4]) (by kernel_rfl) (by simp) ?_
  refine AllReadyH.cons (o := ⟨_, _, _, _, _, _⟩) rfl (fun K hK => ?_) AllReadyH.nil
  refine step_append_any _ rfl (.tmp 23) (.tmp 24) _ rfl w3.heap.size 5 i0 _ 1 1 Try.underlying58 hi0 hz0 hz1 hz2 rfl (by omega) (.slice (some ⟨w3.heap.size, 0, none⟩) 0 0) _ (kv .u8 []) rfl (own_new w3.drew 5 1) _ A1 n1 c1 (kv .u8 l1) rfl (HL.out _ (HB3.out.trans ((HM.out.to_below (fun _ _ h => h)).mono HB3.out.size))) kv_one (by have := r3.out; simp only [maxLen]; omega) (by have := r3.out; omega) (by simp) ?_
  intro v1 w4 hown1 hg1 hat1
  rw [kv_append, Nat.zero_add, List.nil_append] at hown1
  obtain ⟨A4, c4, rfl, -⟩ := own_slice hown1
  have hb4 : Below w3.heap.size w3 w4 := ((HM.out.only.mono (fun _ _ h => h.elim)).trans (Only.of_grown (S := fun i => w3.heap.size ≤ i) hg1 (fun i hi => by simp [Value.ownBlock] at hi; omega)) (fun _ _ h => h)).below (Nat.le_refl _) (fun i hi h => by omega)
  have HOW4 := Lib.hid hown1
  have hm := (Mem.start (fun _ => False) w3).below hb4
  clear hown1 hg1 hat1 hb4
  clear HM
  have HM := Lib.hid hm
  clear hm
  refine hK.out _ _ ?_ (fun hHeld => ?_)
  · exact HC3.out _ (HM.out.to_below (fun _ _ h => h))
  clear hK K
  try simp only [Act.put, List.setIfInBounds_toArray, List.set_cons_zero, List.set_cons_succ]
  refine wpAnyH_ready (rs := [6]) (by kernel_rfl) (by simp) ?_
  refine AllReadyH.cons (o := ⟨_, _, _, _, _, _⟩) rfl (fun K hK => ?_) AllReadyH.nil
  go_simp
  go_at_call 39
  refine (HRI.out w3.heap.size A4 n1 c4 l1 w4 (HM.out.to_below (fun _ _ h => h)).size HOW4.out (by have := r3.out; omega)).mono ?_
  rintro e w5 ⟨A5, c5, rfl, hrow5, hown5⟩
  have hb5 : Below w3.heap.size w3 w5 := ((HM.out.only.mono (fun _ _ h => h.elim)).trans (hown5.1.mono (fun i _ h => own_base HOW4.out h.symm)) (fun _ _ h => h)).below (Nat.le_refl _) (fun i hi h => by omega)
  have HRE := Lib.hid (row8_reads hrow5)
  have hm := (Mem.start (fun _ => False) w3).below hb5
  clear hrow5 hown5 hb5
  clear HM
  have HM := Lib.hid hm
  clear hm
  refine hK.out _ _ ?_ (fun hHeld => ?_)
  · exact HC3.out _ (HM.out.to_below (fun _ _ h => h))
  clear hK K
  try simp only [Act.put, List.setIfInBounds_toArray, List.set_cons_zero, List.set_cons_succ]
  refine wpAnyH_ready (rs := [7]) (by kernel_rfl) (by simp) ?_
  refine AllReadyH.cons (o := ⟨_, _, _, _, _, _⟩) rfl (fun K hK => ?_) AllReadyH.nil
  have hcv := conv_str (c := c5) HRE.out
  rw [HS3.out] at hcv
  go_simp
  refine hK.out _ _ ?_ (fun hHeld => ?_)
  · exact HC3.out _ (HM.out.to_below (fun _ _ h => h))
  clear hK K
  try simp only [Act.put, List.setIfInBounds_toArray, List.set_cons_zero, List.set_cons_succ]
  refine wpAnyH_take (i := 8) (oi := ⟨_, _, _, _, _, _⟩) (v := ?_) rfl (by kernel_rfl) (by kernel_rfl) (by kernel_rfl) (fun _ _ _ h => h) (Or.inl ⟨by rfl, ?_⟩) (by assumption) ?_
  rotate_left
  · intro w hSw; (try dsimp only at hSw); go_split_ands; go_simp; try with_reducible rfl
  try simp only [Act.put, List.setIfInBounds_toArray, List.set_cons_zero, List.set_cons_succ]
  refine wpAnyH_done (by kernel_rfl) ?_ _
  refine NoPanic.normal ?_
  skip

  have HB5 : Hid (Below w.heap.size w w5) := Lib.hid (HB3.out.trans ((HM.out.to_below (fun _ _ h => h)).mono HB3.out.size))
  have r1 : Hid (Row8 (w5.alloc (.cells #[] 5)) w5.heap.size (.slice (some ⟨w5.heap.size, 0, none⟩) 0 0) 0 []) := Lib.hid (own_new w5 5 1)
  have r4 : Hid (w5.heap.size ≤ (w5.alloc (.cells #[] 5)).heap.size) := Lib.hid (by simp)
  have r5 : Hid (Below w5.heap.size w5 (w5.alloc (.cells #[] 5))) := Lib.hid (((Mem.start (fun _ => False) w5).new 5 []).to_below (fun _ _ h => h))
  clear HC3 HS3 HR3 HB3 HM HOW4 HRE
  go_wp2_with fail
  refine (HRI0.out w5.heap.size (some ⟨w5.heap.size, 0, none⟩) 0 0 [] _ r4.out r1.out (Nat.le_refl _)).mono ?_
  rintro e w6 ⟨A6, c6, rfl, hrow6, hown6⟩
  have HB6 : Hid (Below w.heap.size w w6) := Lib.hid (HB5.out.trans ((((Only.of_below r5.out).trans (hown6.1.mono (fun i _ h => own_base r1.out h.symm)) (fun _ _ h => h)).below (Nat.le_refl _) (fun i hi h => by omega) : Below w5.heap.size w5 w6).mono HB5.out.size))
  have HR6 := Lib.hid (row8_reads hrow6)
  clear hrow6 hown6
  clear r1 r4 r5 HB5
  go_upto_region 7 with fail
  have HM : Hid (Mem (fun _ => False) w6 [] w6) := Lib.hid (Mem.start _ w6)
  have r1 : Hid ((w6.alloc (.cells #[] 5)).ownsRow w6.heap.size 5 1 (.slice (some ⟨w6.heap.size, 0, none⟩) 0 0) 0 (kv .u8 [])) := Lib.hid (own_new w6 5 1)
  have r5 : Hid (Below w6.heap.size w6 (w6.alloc (.cells #[] 5))) := Lib.hid (((Mem.start (fun _ => False) w6).new 5 []).to_below (fun _ _ h => h))
  have r2 : Hid (Reads (w6.alloc (.cells #[] 5)) w6.heap.size 1 A6 m (kv .u8 V)) := Lib.hid (HR6.out.below r5.out)
  go_wp2_with (first
    | (at_builtin
       refine wpList_append_any _ rfl (.tmp 34) (.tmp 35) _ rfl w6.heap.size 5 i0 _ 1 1 Try.underlying58 hi0 hz0 hz1 hz2 rfl (by omega) (.slice (some ⟨w6.heap.size, 0, none⟩) 0 0) _ (kv .u8 []) rfl r1.out _ A6 m c6 (kv .u8 V) rfl (r2.out) kv_one (by have := r3.out; simp only [maxLen]; omega) (by have := r3.out; omega) (by simp) ?_
       intro v1 w7 hown1 hg1 hat1
       rw [kv_append, Nat.zero_add, List.nil_append] at hown1
       obtain ⟨A7, c7, rfl, hr2⟩ := own_slice hown1
       have hm := (Mem.start (fun _ => False) w6).below ((((Only.of_below r5.out).trans (Only.of_grown (S := fun i => w6.heap.size ≤ i) hg1 (fun i hi => by simp [Value.ownBlock] at hi; omega)) (fun _ _ h => h)).below (Nat.le_refl _) (fun i hi h => by omega)) : Below w6.heap.size w6 w7)
       clear HM
       have HM := Lib.hid hm
       have HO7 := Lib.hid hown1
       clear hown1 hg1 hat1 hr2 hm r1 r2 r5
       try simp only [Act.put, List.setIfInBounds_toArray, List.set_cons_zero, List.set_cons_succ])
    | (at_builtin
       refine wpList_append_any _ rfl (.tmp 36) (.tmp 37) _ rfl w6.heap.size 5 i0 _ 1 1 Try.underlying58 hi0 hz0 hz1 hz2 rfl (by omega) (.slice A7 m c7) _ (kv .u8 V) rfl HO7.out _ A1 n1 c1 (kv .u8 l1) rfl (HL.out _ (HB6.out.trans ((HM.out.to_below (fun _ _ h => h)).mono HB6.out.size))) kv_one (by have := r3.out; simp only [maxLen]; omega) (by have := r3.out; omega) ((HM.out.to_below (fun _ _ h => h)).size) ?_
       intro v1 w8 hown1 hg1 hat1
       rw [kv_append] at hown1
       obtain ⟨A8, c8, rfl, hr2⟩ := own_slice hown1
       have hm := (Mem.start (fun _ => False) w6).below ((((HM.out.only.mono (fun _ _ h => h.elim)).trans (Only.of_grown (S := fun i => w6.heap.size ≤ i) hg1 (fun i hi => own_base HO7.out hi.symm)) (fun _ _ h => h)).below (Nat.le_refl _) (fun i hi h => by omega)) : Below w6.heap.size w6 w8)
       clear HM
       have HM := Lib.hid hm
       have HR8 := Lib.hid (row8_reads hown1)
       clear hown1 hg1 hat1 hr2 hm HO7
       try simp only [Act.put, List.setIfInBounds_toArray, List.set_cons_zero, List.set_cons_succ])
    | (go_at_call 40
       refine (HRD.out A8 c8 w8 HR8.out).mono ?_
       rintro e w8b ⟨rfl, rfl⟩
       clear HR8
       have r1 : Hid ((w8.alloc (.cells #[] 5)).ownsRow w8.heap.size 5 1 (.slice (some ⟨w8.heap.size, 0, none⟩) 0 0) 0 (kv .u8 [])) := Lib.hid (own_new w8 5 1)
       have HMA : Hid (Mem (fun _ => False) w6 [] (w8.alloc (.cells #[] 5))) := Lib.hid ((HM.out.new 5 []).tail)
       have HZ8 : Hid (w6.heap.size ≤ w8.heap.size) := Lib.hid (HM.out.to_below (fun _ _ h => h)).size
       have r2 : Hid (Reads (w8.alloc (.cells #[] 5)) w.heap.size 1 A1 n1 (kv .u8 l1)) := Lib.hid (HL.out _ (HB6.out.trans ((HMA.out.to_below (fun _ _ h => h)).mono HB6.out.size))))
    | (at_builtin
       refine wpList_append_any _ rfl (.tmp 52) (.tmp 53) _ rfl w8.heap.size 5 i0 _ 1 1 Try.underlying58 hi0 hz0 hz1 hz2 rfl (by omega) (.slice (some ⟨w8.heap.size, 0, none⟩) 0 0) _ (kv .u8 []) rfl r1.out _ A1 n1 c1 (kv .u8 l1) rfl (r2.out) kv_one (by have := r3.out; simp only [maxLen]; omega) (by have := r3.out; omega) (by simp) ?_
       intro v1 w9 hown1 hg1 hat1
       rw [kv_append, Nat.zero_add, List.nil_append] at hown1
       obtain ⟨A9, c9, rfl, hr2⟩ := own_slice hown1
       have hm := (Mem.start (fun _ => False) w6).below ((((HMA.out.only.mono (fun _ _ h => h.elim)).trans (Only.of_grown (S := fun i => w6.heap.size ≤ i) hg1 (fun i hi => by simp [Value.ownBlock] at hi; have := HZ8.out; omega)) (fun _ _ h => h)).below (Nat.le_refl _) (fun i hi h => by omega)) : Below w6.heap.size w6 w9)
       clear HM
       have HM := Lib.hid hm
       have HR9 := Lib.hid (row8_reads hown1)
       clear hown1 hg1 hat1 hr2 hm HMA
       try simp only [Act.put, List.setIfInBounds_toArray, List.set_cons_zero, List.set_cons_succ])
    | fail)
  refine (HRD1.out A9 c9 w9 HR9.out).mono ?_
  rintro e w9b ⟨he, rfl⟩
  clear HR9 r1 r2 HZ8
  have HZ9 : Hid (w6.heap.size ≤ w9.heap.size) := Lib.hid (HM.out.to_below (fun _ _ h => h)).size
  cases hrd : rd 0 0 l1 with
  | none =>
    rw [hrd] at he
    have he2 : e = .returned (.tuple #[.int .i64 0, .int .i64 0]) := he
    clear he
    subst he2
    by_cases hnm : n1 < m
    · have t1 : decide ((n1 : Int) < (m : Int)) = true := by simp; omega
      have t2 : (n1 : Int) < (m : Int) := by omega
      clear hnm hrd
      go_upto_region 12 with fail
      refine wp_region_noPanic ?_
      refine wp_region_held_drew (S := (fun _ => True)) (by kernel_rfl) ?_ (fun hHeld => ?_)
      · exact trivial
      have hm := HM.out.drew
      clear HM
      have HM := Lib.hid hm
      clear hm
      refine wpAnyH_take (i := 0) (oi := ⟨_, _, _, _, _, _⟩) (v := ?_) rfl (by kernel_rfl) (by kernel_rfl) (by kernel_rfl) (fun _ _ _ h => h) (Or.inl ⟨by rfl, ?_⟩) (by assumption) ?_
      rotate_left
      · intro w hSw; (try dsimp only at hSw); go_split_ands; go_simp; try with_reducible rfl
      try simp only [Act.put, List.setIfInBounds_toArray, List.set_cons_zero, List.set_cons_succ]
      refine wpAnyH_take (i := 1) (oi := ⟨_, _, _, _, _, _⟩) (v := ?_) rfl (by kernel_rfl) (by kernel_rfl) (by kernel_rfl) (fun _ _ _ h => h) (Or.inl ⟨by rfl, ?_⟩) (by assumption) ?_
      rotate_left
      · intro w hSw; (try dsimp only at hSw); go_split_ands; go_simp; try with_reducible rfl
      try simp only [Act.put, List.setIfInBounds_toArray, List.set_cons_zero, List.set_cons_succ]
      refine wpAnyH_take (i := 2) (oi := ⟨_, _, _, _, _, _⟩) (v := ?_) rfl (by kernel_rfl) (by kernel_rfl) (by kernel_rfl) (fun _ _ _ h => h) (Or.inl ⟨by rfl, ?_⟩) (by assumption) ?_
      rotate_left
      · intro w hSw; (try dsimp only at hSw); go_split_ands; go_simp; try with_reducible rfl
      try simp only [Act.put, List.setIfInBounds_toArray, List.set_cons_zero, List.set_cons_succ]
      refine wpAnyH_take (i := 3) (oi := ⟨_, _, _, _, _, _⟩) (v := ?_) rfl (by kernel_rfl) (by kernel_rfl) (by kernel_rfl) (fun _ _ _ h => h) (Or.inl ⟨by rfl, ?_⟩) (by assumption) ?_
      rotate_left
      · intro w hSw; (try dsimp only at hSw); go_split_ands; go_simp; try with_reducible rfl
      try simp only [Act.put, List.setIfInBounds_toArray, List.set_cons_zero, List.set_cons_succ]
      refine wpAnyH_take (i := 4) (oi := ⟨_, _, _, _, _, _⟩) (v := ?_) rfl (by kernel_rfl) (by kernel_rfl) (by kernel_rfl) (fun _ _ _ h => h) (Or.inl ⟨by rfl, ?_⟩) (by assumption) ?_
      rotate_left
      · intro w hSw; (try dsimp only at hSw); go_split_ands; go_simp; try with_reducible rfl
      try simp only [Act.put, List.setIfInBounds_toArray, List.set_cons_zero, List.set_cons_succ]
      refine wpAnyH_take (i := 5) (oi := ⟨_, _, _, _, _, _⟩) (v := ?_) rfl (by kernel_rfl) (by kernel_rfl) (by kernel_rfl) (fun _ _ _ h => h) (Or.inl ⟨by rfl, ?_⟩) (by assumption) ?_
      rotate_left
      · intro w hSw; (try dsimp only at hSw); go_split_ands; go_simp; try with_reducible rfl
      try simp only [Act.put, List.setIfInBounds_toArray, List.set_cons_zero, List.set_cons_succ]
      refine wpAnyH_take (i := 6) (oi := ⟨_, _, _, _, _, _⟩) (v := ?_) rfl (by kernel_rfl) (by kernel_rfl) (by kernel_rfl) (fun _ _ _ h => h) (Or.inl ⟨by rfl, ?_⟩) (by assumption) ?_
      rotate_left
      · intro w hSw; (try dsimp only at hSw); go_split_ands; go_simp; try with_reducible rfl
      try simp only [Act.put, List.setIfInBounds_toArray, List.set_cons_zero, List.set_cons_succ]
      refine wpAnyH_take (i := 7) (oi := ⟨_, _, _, _, _, _⟩) (v := ?_) rfl (by kernel_rfl) (by kernel_rfl) (by kernel_rfl) (fun _ _ _ h => h) (Or.inl ⟨by rfl, ?_⟩) (by assumption) ?_
      rotate_left
      · intro w hSw; (try dsimp only at hSw); go_split_ands; go_simp; try with_reducible rfl
      try simp only [Act.put, List.setIfInBounds_toArray, List.set_cons_zero, List.set_cons_succ]
      refine wpAnyH_take (i := 8) (oi := ⟨_, _, _, _, _, _⟩) (v := ?_) rfl (by kernel_rfl) (by kernel_rfl) (by kernel_rfl) (fun _ _ _ h => h) (Or.inl ⟨by rfl, ?_⟩) (by assumption) ?_
      rotate_left
      · intro w hSw; (try dsimp only at hSw); go_split_ands; go_simp; try with_reducible rfl
      try simp only [Act.put, List.setIfInBounds_toArray, List.set_cons_zero, List.set_cons_succ]
      refine wpAnyH_take (i := 9) (oi := ⟨_, _, _, _, _, _⟩) (v := undef) rfl (by kernel_rfl) (by kernel_rfl) (by kernel_rfl) (fun _ _ _ h => h) (Or.inr ⟨by rfl, rfl⟩) (by assumption) ?_
      try simp only [Act.put, List.setIfInBounds_toArray, List.set_cons_zero, List.set_cons_succ]
      refine wpAnyH_take (i := 10) (oi := ⟨_, _, _, _, _, _⟩) (v := undef) rfl (by kernel_rfl) (by kernel_rfl) (by kernel_rfl) (fun _ _ _ h => h) (Or.inr ⟨by rfl, rfl⟩) (by assumption) ?_
      try simp only [Act.put, List.setIfInBounds_toArray, List.set_cons_zero, List.set_cons_succ]
      refine wpAnyH_take (i := 11) (oi := ⟨_, _, _, _, _, _⟩) (v := undef) rfl (by kernel_rfl) (by kernel_rfl) (by kernel_rfl) (fun _ _ _ h => h) (Or.inr ⟨by rfl, rfl⟩) (by assumption) ?_
      try simp only [Act.put, List.setIfInBounds_toArray, List.set_cons_zero, List.set_cons_succ]
      refine wpAnyH_take (i := 12) (oi := ⟨_, _, _, _, _, _⟩) (v := undef) rfl (by kernel_rfl) (by kernel_rfl) (by kernel_rfl) (fun _ _ _ h => h) (Or.inr ⟨by rfl, rfl⟩) (by assumption) ?_
      try simp only [Act.put, List.setIfInBounds_toArray, List.set_cons_zero, List.set_cons_succ]
      refine wpAnyH_take (i := 13) (oi := ⟨_, _, _, _, _, _⟩) (v := undef) rfl (by kernel_rfl) (by kernel_rfl) (by kernel_rfl) (fun _ _ _ h => h) (Or.inr ⟨by rfl, rfl⟩) (by assumption) ?_
      try simp only [Act.put, List.setIfInBounds_toArray, List.set_cons_zero, List.set_cons_succ]
      refine wpAnyH_take (i := 14) (oi := ⟨_, _, _, _, _, _⟩) (v := undef) rfl (by kernel_rfl) (by kernel_rfl) (by kernel_rfl) (fun _ _ _ h => h) (Or.inr ⟨by rfl, rfl⟩) (by assumption) ?_
      try simp only [Act.put, List.setIfInBounds_toArray, List.set_cons_zero, List.set_cons_succ]
      refine wpAnyH_take (i := 15) (oi := ⟨_, _, _, _, _, _⟩) (v := undef) rfl (by kernel_rfl) (by kernel_rfl) (by kernel_rfl) (fun _ _ _ h => h) (Or.inr ⟨by rfl, rfl⟩) (by assumption) ?_
      try simp only [Act.put, List.setIfInBounds_toArray, List.set_cons_zero, List.set_cons_succ]
      refine wpAnyH_take (i := 16) (oi := ⟨_, _, _, _, _, _⟩) (v := undef) rfl (by kernel_rfl) (by kernel_rfl) (by kernel_rfl) (fun _ _ _ h => h) (Or.inr ⟨by rfl, rfl⟩) (by assumption) ?_
      try simp only [Act.put, List.setIfInBounds_toArray, List.set_cons_zero, List.set_cons_succ]
      refine wpAnyH_take (i := 17) (oi := ⟨_, _, _, _, _, _⟩) (v := ?_) rfl (by kernel_rfl) (by kernel_rfl) (by kernel_rfl) (fun _ _ _ h => h) (Or.inl ⟨by rfl, ?_⟩) (by assumption) ?_
      rotate_left
      · intro w hSw; (try dsimp only at hSw); go_split_ands; go_simp; try with_reducible rfl
      try simp only [Act.put, List.setIfInBounds_toArray, List.set_cons_zero, List.set_cons_succ]
      refine wpAnyH_take (i := 18) (oi := ⟨_, _, _, _, _, _⟩) (v := ?_) rfl (by kernel_rfl) (by kernel_rfl) (by kernel_rfl) (fun _ _ _ h => h) (Or.inl ⟨by rfl, ?_⟩) (by assumption) ?_
      rotate_left
      · intro w hSw; (try dsimp only at hSw); go_split_ands; go_simp; try with_reducible rfl
      try simp only [Act.put, List.setIfInBounds_toArray, List.set_cons_zero, List.set_cons_succ]
      refine wpAnyH_take (i := 19) (oi := ⟨_, _, _, _, _, _⟩) (v := ?_) rfl (by kernel_rfl) (by kernel_rfl) (by kernel_rfl) (fun _ _ _ h => h) (Or.inl ⟨by rfl, ?_⟩) (by assumption) ?_
      rotate_left
      · intro w hSw; (try dsimp only at hSw); go_split_ands; go_simp; try with_reducible rfl
      try simp only [Act.put, List.setIfInBounds_toArray, List.set_cons_zero, List.set_cons_succ]
      refine wpAnyH_ready (rs := [20]) (by kernel_rfl) (by simp) ?_
      refine AllReadyH.cons (o := ⟨_, _, _, _, _, _⟩) rfl (fun K hK => ?_) AllReadyH.nil
      go_simp
      go_at_call 33
      refine (lives29 _).mono ?_
      rintro e wx ⟨rfl, hb⟩
      have hm := HM.out.below hb
      clear HM hb
      have HM := Lib.hid hm
      clear hm
      refine hK.out _ _ ?_ (fun hHeld => ?_)
      · exact trivial
      clear hK K
      try simp only [Act.put, List.setIfInBounds_toArray, List.set_cons_zero, List.set_cons_succ]
      refine wpAnyH_take (i := 21) (oi := ⟨_, _, _, _, _, _⟩) (v := ?_) rfl (by kernel_rfl) (by kernel_rfl) (by kernel_rfl) (fun _ _ _ h => h) (Or.inl ⟨by rfl, ?_⟩) (by assumption) ?_
      rotate_left
      · intro w hSw; (try dsimp only at hSw); go_split_ands; go_simp; try with_reducible rfl
      try simp only [Act.put, List.setIfInBounds_toArray, List.set_cons_zero, List.set_cons_succ]
      refine wpAnyH_take (i := 22) (oi := ⟨_, _, _, _, _, _⟩) (v := ?_) rfl (by kernel_rfl) (by kernel_rfl) (by kernel_rfl) (fun _ _ _ h => h) (Or.inl ⟨by rfl, ?_⟩) (by assumption) ?_
      rotate_left
      · intro w hSw; (try dsimp only at hSw); go_split_ands; go_simp; try with_reducible rfl
      try simp only [Act.put, List.setIfInBounds_toArray, List.set_cons_zero, List.set_cons_succ]
      refine wpAnyH_done (by kernel_rfl) ?_ _
      refine NoPanic.normal ?_
      go_wp2_with fail
      go_ret
      exact ⟨rfl, HB6.out.trans ((HM.out.to_below (fun _ _ h => h)).mono HB6.out.size)⟩
    · have t1 : decide ((n1 : Int) < (m : Int)) = false := by simp; omega
      have t2 : (m : Int) ≤ (n1 : Int) := by omega
      have t3 : decide (n1 < m) = false := by simp; omega
      have hL := HL.out w (Below.refl _ _)
      obtain ⟨b0, o0, hA1, -, -⟩ := hL.row (by omega) (by have := HMm.out; omega)
      subst hA1
      have t4 : m ≤ c1 := by have := HN.out; omega
      have t5 : (m : Int) ≤ (c1 : Int) := by omega
      have t6 : (0 : Int) ≤ (m : Int) := by omega
      obtain ⟨Sa, hSa⟩ : ∃ Sa, strOfNums (l1.take m) = Sa := ⟨_, rfl⟩
      obtain ⟨Sb, hSb⟩ : ∃ Sb, strOfNums V = Sb := ⟨_, rfl⟩
      have q3 : (Sa.toList == Sb.toList) = false := by
        rw [← hSa, ← hSb, beq_eq_false_iff_ne]
        intro h
        have h2 : strOfNums (l1.take m) = strOfNums V := by
          unfold strOfNums at h ⊢
          rw [ByteArray.toList_mk, ByteArray.toList_mk] at h
          rw [h]
        have h3 := str_inj _ _ (fun z hz => HBY.out z (List.mem_of_mem_take hz)) HVB.out h2
        have h4 := HRV.out (l1.drop m)
        rw [← h3, List.take_append_drop, hrd] at h4
        cases h4
      have hca : ∀ W, Below w6.heap.size w6 W → (convert 58 9 (.slice (some ⟨b0, o0, none⟩) m c1)).run Try.prog W = .ok (.string Sa) W := fun W hW => by rw [← hSa]; exact conv_str (reads_take (HL.out _ (HB6.out.trans (hW.mono HB6.out.size))) m (by omega))
      have hcb : ∀ W, Below w6.heap.size w6 W → (convert 58 9 (.slice A6 m c6)).run Try.prog W = .ok (.string Sb) W := fun W hW => by rw [← hSb]; exact conv_str (HR6.out.below hW)
      have HCa := Lib.hid hca
      have HCb := Lib.hid hcb
      have HC0 : Hid (m ≤ c1) := Lib.hid t4
      clear hnm hrd hL hca hcb hSa hSb
      go_upto_region 12 with fail
      refine wp_region_noPanic ?_
      refine wp_region_held_drew (S := (fun w' => (convert 58 9 (.slice (some ⟨b0, o0, none⟩) m c1)).run Try.prog w' = .ok (.string Sa) w' ∧ (convert 58 9 (.slice A6 m c6)).run Try.prog w' = .ok (.string Sb) w')) (by kernel_rfl) ?_ (fun hHeld => ?_)
      · exact ⟨HCa.out _ (HM.out.to_below (fun _ _ h => h)).drew, HCb.out _ (HM.out.to_below (fun _ _ h => h)).drew⟩
      have hm := HM.out.drew
      clear HM
      have HM := Lib.hid hm
      clear hm
      refine wpAnyH_take (i := 0) (oi := ⟨_, _, _, _, _, _⟩) (v := ?_) rfl (by kernel_rfl) (by kernel_rfl) (by kernel_rfl) (fun _ _ _ h => h) (Or.inl ⟨by rfl, ?_⟩) (by assumption) ?_
      rotate_left
      · intro w hSw; (try dsimp only at hSw); go_split_ands; go_simp; try with_reducible rfl
      try simp only [Act.put, List.setIfInBounds_toArray, List.set_cons_zero, List.set_cons_succ]
      refine wpAnyH_take (i := 1) (oi := ⟨_, _, _, _, _, _⟩) (v := ?_) rfl (by kernel_rfl) (by kernel_rfl) (by kernel_rfl) (fun _ _ _ h => h) (Or.inl ⟨by rfl, ?_⟩) (by assumption) ?_
      rotate_left
      · intro w hSw; (try dsimp only at hSw); go_split_ands; go_simp; try with_reducible rfl
      try simp only [Act.put, List.setIfInBounds_toArray, List.set_cons_zero, List.set_cons_succ]
      refine wpAnyH_take (i := 2) (oi := ⟨_, _, _, _, _, _⟩) (v := ?_) rfl (by kernel_rfl) (by kernel_rfl) (by kernel_rfl) (fun _ _ _ h => h) (Or.inl ⟨by rfl, ?_⟩) (by assumption) ?_
      rotate_left
      · intro w hSw; (try dsimp only at hSw); go_split_ands; go_simp; try with_reducible rfl
      try simp only [Act.put, List.setIfInBounds_toArray, List.set_cons_zero, List.set_cons_succ]
      refine wpAnyH_take (i := 3) (oi := ⟨_, _, _, _, _, _⟩) (v := ?_) rfl (by kernel_rfl) (by kernel_rfl) (by kernel_rfl) (fun _ _ _ h => h) (Or.inl ⟨by rfl, ?_⟩) (by assumption) ?_
      rotate_left
      · intro w hSw; (try dsimp only at hSw); go_split_ands; go_simp; try with_reducible rfl
      try simp only [Act.put, List.setIfInBounds_toArray, List.set_cons_zero, List.set_cons_succ]
      refine wpAnyH_take (i := 4) (oi := ⟨_, _, _, _, _, _⟩) (v := ?_) rfl (by kernel_rfl) (by kernel_rfl) (by kernel_rfl) (fun _ _ _ h => h) (Or.inl ⟨by rfl, ?_⟩) (by assumption) ?_
      rotate_left
      · intro w hSw; (try dsimp only at hSw); go_split_ands; go_simp; try with_reducible rfl
      try simp only [Act.put, List.setIfInBounds_toArray, List.set_cons_zero, List.set_cons_succ]
      refine wpAnyH_take (i := 5) (oi := ⟨_, _, _, _, _, _⟩) (v := ?_) rfl (by kernel_rfl) (by kernel_rfl) (by kernel_rfl) (fun _ _ _ h => h) (Or.inl ⟨by rfl, ?_⟩) (by assumption) ?_
      rotate_left
      · intro w hSw; (try dsimp only at hSw); go_split_ands; go_simp; try with_reducible rfl
      try simp only [Act.put, List.setIfInBounds_toArray, List.set_cons_zero, List.set_cons_succ]
      refine wpAnyH_take (i := 6) (oi := ⟨_, _, _, _, _, _⟩) (v := ?_) rfl (by kernel_rfl) (by kernel_rfl) (by kernel_rfl) (fun _ _ _ h => h) (Or.inl ⟨by rfl, ?_⟩) (by assumption) ?_
      rotate_left
      · intro w hSw; (try dsimp only at hSw); go_split_ands; go_simp; try with_reducible rfl
      try simp only [Act.put, List.setIfInBounds_toArray, List.set_cons_zero, List.set_cons_succ]
      refine wpAnyH_take (i := 7) (oi := ⟨_, _, _, _, _, _⟩) (v := ?_) rfl (by kernel_rfl) (by kernel_rfl) (by kernel_rfl) (fun _ _ _ h => h) (Or.inl ⟨by rfl, ?_⟩) (by assumption) ?_
      rotate_left
      · intro w hSw; (try dsimp only at hSw); go_split_ands; go_simp; try with_reducible rfl
      try simp only [Act.put, List.setIfInBounds_toArray, List.set_cons_zero, List.set_cons_succ]
      refine wpAnyH_take (i := 8) (oi := ⟨_, _, _, _, _, _⟩) (v := ?_) rfl (by kernel_rfl) (by kernel_rfl) (by kernel_rfl) (fun _ _ _ h => h) (Or.inl ⟨by rfl, ?_⟩) (by assumption) ?_
      rotate_left
      · intro w hSw; (try dsimp only at hSw); go_split_ands; go_simp; try with_reducible rfl
      try simp only [Act.put, List.setIfInBounds_toArray, List.set_cons_zero, List.set_cons_succ]
      refine wpAnyH_take (i := 9) (oi := ⟨_, _, _, _, _, _⟩) (v := ?_) rfl (by kernel_rfl) (by kernel_rfl) (by kernel_rfl) (fun _ _ _ h => h) (Or.inl ⟨by rfl, ?_⟩) (by assumption) ?_
      rotate_left
      · intro w hSw; (try dsimp only at hSw); go_split_ands; go_simp; try with_reducible rfl
      try simp only [Act.put, List.setIfInBounds_toArray, List.set_cons_zero, List.set_cons_succ]
      refine wpAnyH_take (i := 10) (oi := ⟨_, _, _, _, _, _⟩) (v := ?_) rfl (by kernel_rfl) (by kernel_rfl) (by kernel_rfl) (fun _ _ _ h => h) (Or.inl ⟨by rfl, ?_⟩) (by assumption) ?_
      rotate_left
      · intro w hSw; (try dsimp only at hSw); go_split_ands; go_simp; try with_reducible rfl
      try simp only [Act.put, List.setIfInBounds_toArray, List.set_cons_zero, List.set_cons_succ]
      refine wpAnyH_take (i := 11) (oi := ⟨_, _, _, _, _, _⟩) (v := ?_) rfl (by kernel_rfl) (by kernel_rfl) (by kernel_rfl) (fun _ _ _ h => h) (Or.inl ⟨by rfl, ?_⟩) (by assumption) ?_
      rotate_left
      · intro w hSw; (try dsimp only at hSw); go_split_ands; go_simp; try with_reducible rfl
      try simp only [Act.put, List.setIfInBounds_toArray, List.set_cons_zero, List.set_cons_succ]
      refine wpAnyH_take (i := 12) (oi := ⟨_, _, _, _, _, _⟩) (v := ?_) rfl (by kernel_rfl) (by kernel_rfl) (by kernel_rfl) (fun _ _ _ h => h) (Or.inl ⟨by rfl, ?_⟩) (by assumption) ?_
      rotate_left
      · intro w hSw; (try dsimp only at hSw); go_split_ands; go_simp; try with_reducible rfl
      try simp only [Act.put, List.setIfInBounds_toArray, List.set_cons_zero, List.set_cons_succ]
      refine wpAnyH_take (i := 13) (oi := ⟨_, _, _, _, _, _⟩) (v := ?_) rfl (by kernel_rfl) (by kernel_rfl) (by kernel_rfl) (fun _ _ _ h => h) (Or.inl ⟨by rfl, ?_⟩) (by assumption) ?_
      rotate_left
      · intro w hSw; (try dsimp only at hSw); go_split_ands; go_simp; try with_reducible rfl
      try simp only [Act.put, List.setIfInBounds_toArray, List.set_cons_zero, List.set_cons_succ]
      refine wpAnyH_take (i := 14) (oi := ⟨_, _, _, _, _, _⟩) (v := ?_) rfl (by kernel_rfl) (by kernel_rfl) (by kernel_rfl) (fun _ _ _ h => h) (Or.inl ⟨by rfl, ?_⟩) (by assumption) ?_
      rotate_left
      · intro w hSw; (try dsimp only at hSw); go_split_ands; go_simp; try with_reducible rfl
      try simp only [Act.put, List.setIfInBounds_toArray, List.set_cons_zero, List.set_cons_succ]
      refine wpAnyH_take (i := 15) (oi := ⟨_, _, _, _, _, _⟩) (v := ?_) rfl (by kernel_rfl) (by kernel_rfl) (by kernel_rfl) (fun _ _ _ h => h) (Or.inl ⟨by rfl, ?_⟩) (by assumption) ?_
      rotate_left
      · intro w hSw; (try dsimp only at hSw); go_split_ands; go_simp; try with_reducible rfl
      try simp only [Act.put, List.setIfInBounds_toArray, List.set_cons_zero, List.set_cons_succ]
      refine wpAnyH_take (i := 16) (oi := ⟨_, _, _, _, _, _⟩) (v := ?_) rfl (by kernel_rfl) (by kernel_rfl) (by kernel_rfl) (fun _ _ _ h => h) (Or.inl ⟨by rfl, ?_⟩) (by assumption) ?_
      rotate_left
      · intro w hSw; (try dsimp only at hSw); go_split_ands; go_simp; try with_reducible rfl
      try simp only [Act.put, List.setIfInBounds_toArray, List.set_cons_zero, List.set_cons_succ]
      refine wpAnyH_take (i := 17) (oi := ⟨_, _, _, _, _, _⟩) (v := ?_) rfl (by kernel_rfl) (by kernel_rfl) (by kernel_rfl) (fun _ _ _ h => h) (Or.inl ⟨by rfl, ?_⟩) (by assumption) ?_
      rotate_left
      · intro w hSw; (try dsimp only at hSw); go_split_ands; go_simp; try with_reducible rfl
      try simp only [Act.put, List.setIfInBounds_toArray, List.set_cons_zero, List.set_cons_succ]
      refine wpAnyH_take (i := 18) (oi := ⟨_, _, _, _, _, _⟩) (v := ?_) rfl (by kernel_rfl) (by kernel_rfl) (by kernel_rfl) (fun _ _ _ h => h) (Or.inl ⟨by rfl, ?_⟩) (by assumption) ?_
      rotate_left
      · intro w hSw; (try dsimp only at hSw); go_split_ands; go_simp; try with_reducible rfl
      try simp only [Act.put, List.setIfInBounds_toArray, List.set_cons_zero, List.set_cons_succ]
      refine wpAnyH_take (i := 19) (oi := ⟨_, _, _, _, _, _⟩) (v := ?_) rfl (by kernel_rfl) (by kernel_rfl) (by kernel_rfl) (fun _ _ _ h => h) (Or.inl ⟨by rfl, ?_⟩) (by assumption) ?_
      rotate_left
      · intro w hSw; (try dsimp only at hSw); go_split_ands; go_simp; try with_reducible rfl
      try simp only [Act.put, List.setIfInBounds_toArray, List.set_cons_zero, List.set_cons_succ]
      refine wpAnyH_ready (rs := [20]) (by kernel_rfl) (by simp) ?_
      refine AllReadyH.cons (o := ⟨_, _, _, _, _, _⟩) rfl (fun K hK => ?_) AllReadyH.nil
      go_simp
      go_at_call 33
      refine (lives29 _).mono ?_
      rintro e wx ⟨rfl, hb⟩
      have hm := HM.out.below hb
      clear HM hb
      have HM := Lib.hid hm
      clear hm
      refine hK.out _ _ ?_ (fun hHeld => ?_)
      · exact ⟨HCa.out _ (HM.out.to_below (fun _ _ h => h)), HCb.out _ (HM.out.to_below (fun _ _ h => h))⟩
      clear hK K
      try simp only [Act.put, List.setIfInBounds_toArray, List.set_cons_zero, List.set_cons_succ]
      refine wpAnyH_take (i := 21) (oi := ⟨_, _, _, _, _, _⟩) (v := ?_) rfl (by kernel_rfl) (by kernel_rfl) (by kernel_rfl) (fun _ _ _ h => h) (Or.inl ⟨by rfl, ?_⟩) (by assumption) ?_
      rotate_left
      · intro w hSw; (try dsimp only at hSw); go_split_ands; go_simp; try with_reducible rfl
      try simp only [Act.put, List.setIfInBounds_toArray, List.set_cons_zero, List.set_cons_succ]
      refine wpAnyH_take (i := 22) (oi := ⟨_, _, _, _, _, _⟩) (v := ?_) rfl (by kernel_rfl) (by kernel_rfl) (by kernel_rfl) (fun _ _ _ h => h) (Or.inl ⟨by rfl, ?_⟩) (by assumption) ?_
      rotate_left
      · intro w hSw; (try dsimp only at hSw); go_split_ands; go_simp; try with_reducible rfl
      try simp only [Act.put, List.setIfInBounds_toArray, List.set_cons_zero, List.set_cons_succ]
      refine wpAnyH_done (by kernel_rfl) ?_ _
      refine NoPanic.normal ?_
      go_wp2_with fail
      go_ret
      exact ⟨rfl, HB6.out.trans ((HM.out.to_below (fun _ _ h => h)).mono HB6.out.size)⟩
  | some zs =>
    obtain ⟨Z, s⟩ := zs
    rw [hrd] at he
    have he2 : e = .returned (.tuple #[.int .i64 (zag Z), .int .i64 (s : Int)]) := he
    clear he
    subst he2
    obtain ⟨hts, hsn, hZ, hs0⟩ := vint_rd HBY.out hrd
    have hL := HL.out w (Below.refl _ _)
    have hlen := hL.klen
    obtain ⟨b0, o0, hA1, -, -⟩ := hL.row (by omega) (by omega)
    subst hA1
    have t0 : ((s : Int) == 0) = false := by simp; omega
    have t00 : (s : Int) ≠ 0 := by omega
    have t1 : decide ((s : Int) ≤ (n1 : Int)) = true := by simp; omega
    have t3 : decide (s ≤ n1) = true := by simp; omega
    have t2 : (s : Int) ≤ (n1 : Int) := by omega
    have t4 : s ≤ c1 := by have := HN.out; omega
    have t5 : (s : Int) ≤ (c1 : Int) := by omega
    have t6 : (0 : Int) ≤ (s : Int) := by omega
    have hzi := zag_in hZ
    have HRZ : Hid (∀ base A n c l W, base ≤ W.heap.size → Row8 W base (.slice A n c) n l → n ≤ 0 → Calls Try.prog 39 #[.slice A n c, .int .i64 (zag Z)] W fun e w' => ∃ A' c', e = .returned (.slice A' s c') ∧ Row8 w' base (.slice A' s c') s (l1.take s) ∧ OwnP W w' A n c A' s c') := Lib.hid (fun base A n c l W h1 h2 h3 => by
      have h4 : n = 0 := by omega
      subst h4
      have h5 : l = [] := List.eq_nil_of_length_eq_zero (by have := h2.1; simpa [kv] using this)
      subst h5
      have h6 : (vint (zag Z)).length = s := by rw [← hts]; simp; omega
      refine (rint_own base A 0 c [] (zag Z) W h1 h2 hzi (by omega)).mono ?_
      rintro e w' ⟨A', c', h7, h8, h9⟩
      rw [h6, Nat.zero_add] at h7 h8 h9
      rw [List.nil_append, ← hts] at h8
      exact ⟨A', c', h7, h8, h9⟩)
    obtain ⟨Sa, hSa⟩ : ∃ Sa, strOfNums (l1.take s) = Sa := ⟨_, rfl⟩
    have hca : ∀ W, Below w6.heap.size w6 W → (convert 58 9 (.slice (some ⟨b0, o0, none⟩) s c1)).run Try.prog W = .ok (.string Sa) W := fun W hW => by rw [← hSa]; exact conv_str (reads_take (HL.out _ (HB6.out.trans (hW.mono HB6.out.size))) s (by omega))
    have HCa := Lib.hid hca
    have HSa := Lib.hid hSa
    clear hrd hts hsn hZ hs0 hL hlen hca hSa hzi
    go_upto_region 13 with fail
    refine wp_region_noPanic ?_
    refine wp_region_held_drew (S := (fun w' => (convert 58 9 (.slice (some ⟨b0, o0, none⟩) s c1)).run Try.prog w' = .ok (.string Sa) w')) (by kernel_rfl) ?_ (fun hHeld => ?_)
    · exact HCa.out _ (HM.out.to_below (fun _ _ h => h)).drew
    have hm := HM.out.drew
    clear HM
    have HM := Lib.hid hm
    clear hm
    refine wpAnyH_take (i := 0) (oi := ⟨_, _, _, _, _, _⟩) (v := ?_) rfl (by kernel_rfl) (by kernel_rfl) (by kernel_rfl) (fun _ _ _ h => h) (Or.inl ⟨by rfl, ?_⟩) (by assumption) ?_
    rotate_left
    · intro w hSw; (try dsimp only at hSw); go_split_ands; go_simp; try with_reducible rfl
    try simp only [Act.put, List.setIfInBounds_toArray, List.set_cons_zero, List.set_cons_succ]
    refine wpAnyH_take (i := 1) (oi := ⟨_, _, _, _, _, _⟩) (v := ?_) rfl (by kernel_rfl) (by kernel_rfl) (by kernel_rfl) (fun _ _ _ h => h) (Or.inl ⟨by rfl, ?_⟩) (by assumption) ?_
    rotate_left
    · intro w hSw; (try dsimp only at hSw); go_split_ands; go_simp; try with_reducible rfl
    try simp only [Act.put, List.setIfInBounds_toArray, List.set_cons_zero, List.set_cons_succ]
    refine wpAnyH_take (i := 2) (oi := ⟨_, _, _, _, _, _⟩) (v := ?_) rfl (by kernel_rfl) (by kernel_rfl) (by kernel_rfl) (fun _ _ _ h => h) (Or.inl ⟨by rfl, ?_⟩) (by assumption) ?_
    rotate_left
    · intro w hSw; (try dsimp only at hSw); go_split_ands; go_simp; try with_reducible rfl
    try simp only [Act.put, List.setIfInBounds_toArray, List.set_cons_zero, List.set_cons_succ]
    refine wpAnyH_take (i := 3) (oi := ⟨_, _, _, _, _, _⟩) (v := ?_) rfl (by kernel_rfl) (by kernel_rfl) (by kernel_rfl) (fun _ _ _ h => h) (Or.inl ⟨by rfl, ?_⟩) (by assumption) ?_
    rotate_left
    · intro w hSw; (try dsimp only at hSw); go_split_ands; go_simp; try with_reducible rfl
    try simp only [Act.put, List.setIfInBounds_toArray, List.set_cons_zero, List.set_cons_succ]
    refine wpAnyH_take (i := 4) (oi := ⟨_, _, _, _, _, _⟩) (v := ?_) rfl (by kernel_rfl) (by kernel_rfl) (by kernel_rfl) (fun _ _ _ h => h) (Or.inl ⟨by rfl, ?_⟩) (by assumption) ?_
    rotate_left
    · intro w hSw; (try dsimp only at hSw); go_split_ands; go_simp; try with_reducible rfl
    try simp only [Act.put, List.setIfInBounds_toArray, List.set_cons_zero, List.set_cons_succ]
    refine wpAnyH_take (i := 6) (oi := ⟨_, _, _, _, _, _⟩) (v := ?_) rfl (by kernel_rfl) (by kernel_rfl) (by kernel_rfl) (fun _ _ _ h => h) (Or.inl ⟨by rfl, ?_⟩) (by assumption) ?_
    rotate_left
    · intro w hSw; (try dsimp only at hSw); go_split_ands; go_simp; try with_reducible rfl
    try simp only [Act.put, List.setIfInBounds_toArray, List.set_cons_zero, List.set_cons_succ]
    refine wpAnyH_take (i := 9) (oi := ⟨_, _, _, _, _, _⟩) (v := ?_) rfl (by kernel_rfl) (by kernel_rfl) (by kernel_rfl) (fun _ _ _ h => h) (Or.inl ⟨by rfl, ?_⟩) (by assumption) ?_
    rotate_left
    · intro w hSw; (try dsimp only at hSw); go_split_ands; go_simp; try with_reducible rfl
    try simp only [Act.put, List.setIfInBounds_toArray, List.set_cons_zero, List.set_cons_succ]
    refine wpAnyH_take (i := 10) (oi := ⟨_, _, _, _, _, _⟩) (v := ?_) rfl (by kernel_rfl) (by kernel_rfl) (by kernel_rfl) (fun _ _ _ h => h) (Or.inl ⟨by rfl, ?_⟩) (by assumption) ?_
    rotate_left
    · intro w hSw; (try dsimp only at hSw); go_split_ands; go_simp; try with_reducible rfl
    try simp only [Act.put, List.setIfInBounds_toArray, List.set_cons_zero, List.set_cons_succ]
    refine wpAnyH_take (i := 11) (oi := ⟨_, _, _, _, _, _⟩) (v := ?_) rfl (by kernel_rfl) (by kernel_rfl) (by kernel_rfl) (fun _ _ _ h => h) (Or.inl ⟨by rfl, ?_⟩) (by assumption) ?_
    rotate_left
    · intro w hSw; (try dsimp only at hSw); go_split_ands; go_simp; try with_reducible rfl
    try simp only [Act.put, List.setIfInBounds_toArray, List.set_cons_zero, List.set_cons_succ]
    refine wpAnyH_take (i := 12) (oi := ⟨_, _, _, _, _, _⟩) (v := ?_) rfl (by kernel_rfl) (by kernel_rfl) (by kernel_rfl) (fun _ _ _ h => h) (Or.inl ⟨by rfl, ?_⟩) (by assumption) ?_
    rotate_left
    · intro w hSw; (try dsimp only at hSw); go_split_ands; go_simp; try with_reducible rfl
    try simp only [Act.put, List.setIfInBounds_toArray, List.set_cons_zero, List.set_cons_succ]
    refine wpAnyH_ready (rs := [5]) (by kernel_rfl) (by simp) ?_
    refine AllReadyH.cons (o := ⟨_, _, _, _, _, _⟩) rfl (fun K hK => ?_) AllReadyH.nil
    go_simp
    have hm := (HM.out.new 5 []).tail
    clear HM
    have HM := Lib.hid hm
    clear hm
    refine hK.out _ _ ?_ (fun hHeld => ?_)
    · exact HCa.out _ (HM.out.to_below (fun _ _ h => h))
    clear hK K
    try simp only [Act.put, List.setIfInBounds_toArray, List.set_cons_zero, List.set_cons_succ]
    refine wpAnyH_ready (rs := [7]) (by kernel_rfl) (by simp) ?_
    refine AllReadyH.cons (o := ⟨_, _, _, _, _, _⟩) rfl (fun K hK => ?_) AllReadyH.nil
    go_simp
    go_at_call 39
    refine (HRZ.out w9.heap.size (some ⟨w9.heap.size, 0, none⟩) 0 0 [] _ (by simp) (own_new w9.drew 5 1) (by omega)).mono ?_
    rintro e wa ⟨Aa, ca, rfl, hrowa, howna⟩
    have hba : Below w6.heap.size w6 wa := (HM.out.only.mono (fun _ _ h => h.elim)).trans (howna.1.mono (fun i _ h => by have h2 := own_base (own_new w9.drew 5 1) h.symm; exact Nat.le_trans HZ9.out h2)) (fun _ _ h => h) |>.below (Nat.le_refl _) (fun i hi h => by omega)
    have HRE := Lib.hid (row8_reads hrowa)
    have hm := (Mem.start (fun _ => False) w6).below hba
    clear hrowa howna hba
    clear HM
    have HM := Lib.hid hm
    clear hm
    refine hK.out _ _ ?_ (fun hHeld => ?_)
    · exact HCa.out _ (HM.out.to_below (fun _ _ h => h))
    clear hK K
    try simp only [Act.put, List.setIfInBounds_toArray, List.set_cons_zero, List.set_cons_succ]
    refine wpAnyH_ready (rs := [8]) (by kernel_rfl) (by simp) ?_
    refine AllReadyH.cons (o := ⟨_, _, _, _, _, _⟩) rfl (fun K hK => ?_) AllReadyH.nil
    have hcv := conv_str (c := ca) HRE.out
    rw [HSa.out] at hcv
    go_simp
    refine hK.out _ _ ?_ (fun hHeld => ?_)
    · exact HCa.out _ (HM.out.to_below (fun _ _ h => h))
    clear hK K
    try simp only [Act.put, List.setIfInBounds_toArray, List.set_cons_zero, List.set_cons_succ]
    refine wpAnyH_take (i := 13) (oi := ⟨_, _, _, _, _, _⟩) (v := ?_) rfl (by kernel_rfl) (by kernel_rfl) (by kernel_rfl) (fun _ _ _ h => h) (Or.inl ⟨by rfl, ?_⟩) (by assumption) ?_
    rotate_left
    · intro w hSw; (try dsimp only at hSw); go_split_ands; go_simp; try with_reducible rfl
    try simp only [Act.put, List.setIfInBounds_toArray, List.set_cons_zero, List.set_cons_succ]
    refine wpAnyH_take (i := 14) (oi := ⟨_, _, _, _, _, _⟩) (v := ?_) rfl (by kernel_rfl) (by kernel_rfl) (by kernel_rfl) (fun _ _ _ h => h) (Or.inl ⟨by rfl, ?_⟩) (by assumption) ?_
    rotate_left
    · intro w hSw; (try dsimp only at hSw); go_split_ands; go_simp; try with_reducible rfl
    try simp only [Act.put, List.setIfInBounds_toArray, List.set_cons_zero, List.set_cons_succ]
    refine wpAnyH_take (i := 15) (oi := ⟨_, _, _, _, _, _⟩) (v := ?_) rfl (by kernel_rfl) (by kernel_rfl) (by kernel_rfl) (fun _ _ _ h => h) (Or.inl ⟨by rfl, ?_⟩) (by assumption) ?_
    rotate_left
    · intro w hSw; (try dsimp only at hSw); go_split_ands; go_simp; try with_reducible rfl
    try simp only [Act.put, List.setIfInBounds_toArray, List.set_cons_zero, List.set_cons_succ]
    refine wpAnyH_ready (rs := [16]) (by kernel_rfl) (by simp) ?_
    refine AllReadyH.cons (o := ⟨_, _, _, _, _, _⟩) rfl (fun K hK => ?_) AllReadyH.nil
    go_simp
    go_at_call 33
    refine (lives29 _).mono ?_
    rintro e wx ⟨rfl, hb⟩
    have hm := HM.out.below hb
    clear HM hb
    have HM := Lib.hid hm
    clear hm
    refine hK.out _ _ ?_ (fun hHeld => ?_)
    · exact HCa.out _ (HM.out.to_below (fun _ _ h => h))
    clear hK K
    try simp only [Act.put, List.setIfInBounds_toArray, List.set_cons_zero, List.set_cons_succ]
    refine wpAnyH_take (i := 17) (oi := ⟨_, _, _, _, _, _⟩) (v := ?_) rfl (by kernel_rfl) (by kernel_rfl) (by kernel_rfl) (fun _ _ _ h => h) (Or.inl ⟨by rfl, ?_⟩) (by assumption) ?_
    rotate_left
    · intro w hSw; (try dsimp only at hSw); go_split_ands; go_simp; try with_reducible rfl
    try simp only [Act.put, List.setIfInBounds_toArray, List.set_cons_zero, List.set_cons_succ]
    refine wpAnyH_take (i := 18) (oi := ⟨_, _, _, _, _, _⟩) (v := ?_) rfl (by kernel_rfl) (by kernel_rfl) (by kernel_rfl) (fun _ _ _ h => h) (Or.inl ⟨by rfl, ?_⟩) (by assumption) ?_
    rotate_left
    · intro w hSw; (try dsimp only at hSw); go_split_ands; go_simp; try with_reducible rfl
    try simp only [Act.put, List.setIfInBounds_toArray, List.set_cons_zero, List.set_cons_succ]
    refine wpAnyH_done (by kernel_rfl) ?_ _
    refine NoPanic.normal ?_
    go_wp2_with fail
    go_ret
    exact ⟨rfl, HB6.out.trans ((HM.out.to_below (fun _ _ h => h)).mono HB6.out.size)⟩
set_option maxRecDepth 100000 in
set_option maxHeartbeats 8000000 in
theorem numbers_way1 (b o n c : Nat) (l : List Int) (v : Int) (hv : -9223372036854775808 ≤ v ∧ v ≤ 9223372036854775807) (w : World) (hr : Reads w w.heap.size 1 (some ⟨b, o, none⟩) n (kv .u8 l)) (ho : okK .u8 l) (hn : 30 < n) (hnc : n ≤ c ∧ c ≤ maxLen) : Calls Try.prog 8 #[.slice (some ⟨b, o, none⟩) n c, .int .i64 v] w fun e w' => e = .returned (.bool true) ∧ Below w.heap.size w w' := by
  obtain ⟨l1, hl1⟩ : ∃ l1, l1 = l.take 30 := ⟨_, rfl⟩
  have t9 : decide ((30 : Int) < (n : Int)) = true := by simp; omega
  have t10 : (30 : Int) < (n : Int) := by omega
  have t11 : (30 : Nat) ≤ c := by omega
  have HN : Hid ((30 : Nat) ≤ 30 ∧ 30 ≤ c ∧ c ≤ maxLen) := Lib.hid ⟨Nat.le_refl _, by omega, hnc.2⟩
  have HL : Hid (∀ W, Below w.heap.size w W → Reads W w.heap.size 1 (some ⟨b, o, none⟩) 30 (kv .u8 l1)) := Lib.hid (fun W hW => by rw [hl1]; exact reads_take (hr.below hW) 30 (by omega))
  have HOK : Hid (okK .u8 l1) := Lib.hid (fun z hz => ho z (List.mem_of_mem_take (by rw [hl1] at hz; exact hz)))
  obtain ⟨V, hV⟩ : ∃ V, V = vint v := ⟨_, rfl⟩
  obtain ⟨m, hm⟩ : ∃ m, m = V.length := ⟨_, rfl⟩
  have HMm : Hid (1 ≤ m ∧ m ≤ 10) := Lib.hid (by rw [hm, hV]; exact ⟨vb_pos _, vint_len hv⟩)
  have HVB : Hid (∀ z ∈ V, 0 ≤ z ∧ z < 256) := Lib.hid (by rw [hV]; exact vb_bytes _)
  have HRV : Hid (∀ rest, rd 0 0 (V ++ rest) = some (zig v, m)) := Lib.hid (fun rest => by rw [hm, hV]; exact rd_vint v rest hv)
  have HCI : Hid (∀ A n c l W, Reads W W.heap.size 1 A n (kv .u8 l) → n ≤ 1000000 → Calls Try.prog 38 #[.slice A n c, .int .i64 v] W fun e w' => ∃ A' c', e = .returned (.slice A' (n + m) c') ∧ Row8 w' W.heap.size (.slice A' (n + m) c') (n + m) (l ++ V) ∧ Below W.heap.size W w') := Lib.hid (fun A n c l W h1 h2 => by rw [hm, hV]; exact cint_any A n c l v W h1 hv h2)
  have HRI : Hid (∀ base A n c l W, base ≤ W.heap.size → Row8 W base (.slice A n c) n l → n ≤ 1000000 → Calls Try.prog 39 #[.slice A n c, .int .i64 v] W fun e w' => ∃ A' c', e = .returned (.slice A' (n + m) c') ∧ Row8 w' base (.slice A' (n + m) c') (n + m) (l ++ V) ∧ OwnP W w' A n c A' (n + m) c') := Lib.hid (fun base A n c l W h1 h2 h3 => by rw [hm, hV]; exact rint_own base A n c l v W h1 h2 hv h3)
  have HRI0 : Hid (∀ base A n c l W, base ≤ W.heap.size → Row8 W base (.slice A n c) n l → n ≤ 0 → Calls Try.prog 39 #[.slice A n c, .int .i64 v] W fun e w' => ∃ A' c', e = .returned (.slice A' m c') ∧ Row8 w' base (.slice A' m c') m V ∧ OwnP W w' A n c A' m c') := Lib.hid (fun base A n c l W h1 h2 h3 => by
    have h4 : n = 0 := by omega
    subst h4
    have h5 : l = [] := List.eq_nil_of_length_eq_zero (by have := h2.1; simpa [kv] using this)
    subst h5
    refine (HRI.out base A 0 c [] W h1 h2 (by omega)).mono ?_
    rintro e w' ⟨A', c', h7, h8, h9⟩
    rw [Nat.zero_add] at h7 h8 h9
    rw [List.nil_append] at h8
    exact ⟨A', c', h7, h8, h9⟩)
  have HBY : Hid (∀ z ∈ l1, 0 ≤ z ∧ z < 256) := Lib.hid (fun z hz => by have := bounds_u8 (HOK.out z hz); omega)
  have r3 : Hid (30 ≤ 30 ∧ m ≤ 10) := Lib.hid ⟨HN.out.1, HMm.out.2⟩
  have HRD : Hid (∀ A c W, Reads W W.heap.size 1 A (m + 30) (kv .u8 (V ++ l1)) → Calls Try.prog 40 #[.slice A (m + 30) c] W fun e w' => e = .returned (.tuple #[.int .i64 v, .int .i64 (m : Int)]) ∧ W = w') := Lib.hid (fun A c W h => by
    have h2 := read_any A (m + 30) c W.heap.size (V ++ l1) W h (fun z hz => wf_of_u8 ((List.mem_append.1 hz).elim (HVB.out z) (HBY.out z))) (by have := r3.out; simp only [maxLen]; omega)
    rw [HRV.out l1] at h2
    have h3 : told (some (zig v, m)) = (v, (m : Int)) := by simp [told, zag_zig]
    rw [h3] at h2
    exact h2)
  have HRD1 : Hid (∀ A c W, Reads W W.heap.size 1 A 30 (kv .u8 l1) → Calls Try.prog 40 #[.slice A 30 c] W fun e w' => e = .returned (.tuple #[.int .i64 (told (rd 0 0 l1)).1, .int .i64 (told (rd 0 0 l1)).2]) ∧ W = w') := Lib.hid (fun A c W h => read_any A 30 c W.heap.size l1 W h HOK.out (by have := r3.out; simp only [maxLen]; omega))
  clear hr ho hn hnc hl1 hv hV hm
  go_enter Try.func8, Try.ntmps8
  go_upto_region 3 with fail
  obtain ⟨i0, hi0, hz0, hz1, hz2⟩ := u8_parts
  have r1 : Hid ((w.alloc (.cells #[] 5)).ownsRow w.heap.size 5 1 (.slice (some ⟨w.heap.size, 0, none⟩) 0 0) 0 (kv .u8 [])) := Lib.hid (own_new w 5 1)
  have r2 : Hid (Reads (w.alloc (.cells #[] 5)) w.heap.size 1 (some ⟨b, o, none⟩) 30 (kv .u8 l1)) := Lib.hid (HL.out _ (((Mem.start (fun _ => False) w).new 5 []).to_below (fun _ _ h => h)))
  go_wp2_with (first
    | (at_builtin
       refine wpList_append_any _ rfl (.tmp 16) (.tmp 17) _ rfl w.heap.size 5 i0 _ 1 1 Try.underlying58 hi0 hz0 hz1 hz2 rfl (by omega) (.slice (some ⟨w.heap.size, 0, none⟩) 0 0) _ (kv .u8 []) rfl r1.out _ (some ⟨b, o, none⟩) 30 c (kv .u8 l1) rfl (r2.out) kv_one (by have := r3.out; simp only [maxLen]; omega) (by have := r3.out; omega) (by simp) ?_
       intro v1 w1 hown1 hg1 hat1
       rw [kv_append, Nat.zero_add, List.nil_append] at hown1
       obtain ⟨A2, c2, rfl, hr2⟩ := own_slice hown1
       have hb1 : Hid (Below w.heap.size w w1) := Lib.hid ((((Only.refl (fun i => w.heap.size ≤ i) w).alloc _).trans (Only.of_grown (S := fun i => w.heap.size ≤ i) hg1 (fun i hi => by simp [Value.ownBlock] at hi; omega)) (fun _ _ h => h)).below (Nat.le_refl _) (fun i hi h => by omega))
       have HR2 := Lib.hid (row8_reads hown1)
       clear hown1 hg1 hat1 hr2
       try simp only [Act.put, List.setIfInBounds_toArray, List.set_cons_zero, List.set_cons_succ])
    | (go_at_call 38
       refine (HCI.out A2 30 c2 l1 w1 HR2.out (by have := r3.out; omega)).mono ?_
       rintro e w3 ⟨A3, c3, rfl, hrow3, hb3⟩
       have HB3 : Hid (Below w.heap.size w w3) := Lib.hid (hb1.out.trans (hb3.mono hb1.out.size))
       have HR3 := Lib.hid (row8_reads hrow3)
       clear hrow3 hb3 hb1 HR2)
    | fail)
  clear r1 r2
  have HM : Hid (Mem (fun _ => False) w3 [] w3) := Lib.hid (Mem.start _ w3)
  obtain ⟨S3, hS3⟩ : ∃ S3, strOfNums (l1 ++ V) = S3 := ⟨_, rfl⟩
  have HS3 := Lib.hid hS3
  clear hS3
  have HC3 : Hid (∀ W, Below w3.heap.size w3 W → (convert 58 9 (.slice A3 (30 + m) c3)).run Try.prog W = .ok (.string S3) W) := Lib.hid (fun W hW => by rw [← HS3.out]; exact conv_str (HR3.out.below hW))
  refine wp_region_noPanic ?_
  refine wp_region_held_drew (S := (fun w' => (convert 58 9 (.slice A3 (30 + m) c3)).run Try.prog w' = .ok (.string S3) w')) (by kernel_rfl) ?_ (fun hHeld => ?_)
  · exact HC3.out _ (HM.out.to_below (fun _ _ h => h)).drew
  have hm := HM.out.drew
  clear HM
  have HM := Lib.hid hm
  clear hm
  refine wpAnyH_take (i := 0) (oi := ⟨_, _, _, _, _, _⟩) (v := ?_) rfl (by kernel_rfl) (by kernel_rfl) (by kernel_rfl) (fun _ _ _ h => h) (Or.inl ⟨by rfl, ?_⟩) (by assumption) ?_
  rotate_left
  · intro w hSw; (try dsimp only at hSw); go_split_ands; go_simp; try with_reducible rfl
  try simp only [Act.put, List.setIfInBounds_toArray, List.set_cons_zero, List.set_cons_succ]
  refine wpAnyH_take (i := 1) (oi := ⟨_, _, _, _, _, _⟩) (v := ?_) rfl (by kernel_rfl) (by kernel_rfl) (by kernel_rfl) (fun _ _ _ h => h) (Or.inl ⟨by rfl, ?_⟩) (by assumption) ?_
  rotate_left
  · intro w hSw; (try dsimp only at hSw); go_split_ands; go_simp; try with_reducible rfl
  try simp only [Act.put, List.setIfInBounds_toArray, List.set_cons_zero, List.set_cons_succ]
  refine wpAnyH_take (i := 3) (oi := ⟨_, _, _, _, _, _⟩) (v := ?_) rfl (by kernel_rfl) (by kernel_rfl) (by kernel_rfl) (fun _ _ _ h => h) (Or.inl ⟨by rfl, ?_⟩) (by assumption) ?_
  rotate_left
  · intro w hSw; (try dsimp only at hSw); go_split_ands; go_simp; try with_reducible rfl
  try simp only [Act.put, List.setIfInBounds_toArray, List.set_cons_zero, List.set_cons_succ]
  refine wpAnyH_take (i := 5) (oi := ⟨_, _, _, _, _, _⟩) (v := ?_) rfl (by kernel_rfl) (by kernel_rfl) (by kernel_rfl) (fun _ _ _ h => h) (Or.inl ⟨by rfl, ?_⟩) (by assumption) ?_
  rotate_left
  · intro w hSw; (try dsimp only at hSw); go_split_ands; go_simp; try with_reducible rfl
  try simp only [Act.put, List.setIfInBounds_toArray, List.set_cons_zero, List.set_cons_succ]
  refine wpAnyH_ready (rs := [2]) (by kernel_rfl) (by simp) ?_
  refine AllReadyH.cons (o := ⟨_, _, _, _, _, _⟩) rfl (fun K hK => ?_) AllReadyH.nil
  go_simp
  have hm := (HM.out.new 5 []).tail
  clear HM
  have HM := Lib.hid hm
  clear hm
  refine hK.out _ _ ?_ (fun hHeld => ?_)
  · exact HC3.out _ (HM.out.to_below (fun _ _ h => h))
  clear hK K
  try simp only [Act.put, List.setIfInBounds_toArray, List.set_cons_zero, List.set_cons_succ]
  refine wpAnyH_ready (rs := [4]) (by kernel_rfl) (by simp) ?_
  refine AllReadyH.cons (o := ⟨_, _, _, _, _, _⟩) rfl (fun K hK => ?_) AllReadyH.nil
  refine step_append_any _ rfl (.tmp 23) (.tmp 24) _ rfl w3.heap.size 5 i0 _ 1 1 Try.underlying58 hi0 hz0 hz1 hz2 rfl (by omega) (.slice (some ⟨w3.heap.size, 0, none⟩) 0 0) _ (kv .u8 []) rfl (own_new w3.drew 5 1) _ (some ⟨b, o, none⟩) 30 c (kv .u8 l1) rfl (HL.out _ (HB3.out.trans ((HM.out.to_below (fun _ _ h => h)).mono HB3.out.size))) kv_one (by have := r3.out; simp only [maxLen]; omega) (by have := r3.out; omega) (by simp) ?_
  intro v1 w4 hown1 hg1 hat1
  rw [kv_append, Nat.zero_add, List.nil_append] at hown1
  obtain ⟨A4, c4, rfl, -⟩ := own_slice hown1
  have hb4 : Below w3.heap.size w3 w4 := ((HM.out.only.mono (fun _ _ h => h.elim)).trans (Only.of_grown (S := fun i => w3.heap.size ≤ i) hg1 (fun i hi => by simp [Value.ownBlock] at hi; omega)) (fun _ _ h => h)).below (Nat.le_refl _) (fun i hi h => by omega)
  have HOW4 := Lib.hid hown1
  have hm := (Mem.start (fun _ => False) w3).below hb4
  clear hown1 hg1 hat1 hb4
  clear HM
  have HM := Lib.hid hm
  clear hm
  refine hK.out _ _ ?_ (fun hHeld => ?_)
  · exact HC3.out _ (HM.out.to_below (fun _ _ h => h))
  clear hK K
  try simp only [Act.put, List.setIfInBounds_toArray, List.set_cons_zero, List.set_cons_succ]
  refine wpAnyH_ready (rs := [6]) (by kernel_rfl) (by simp) ?_
  refine AllReadyH.cons (o := ⟨_, _, _, _, _, _⟩) rfl (fun K hK => ?_) AllReadyH.nil
  go_simp
  go_at_call 39
  refine (HRI.out w3.heap.size A4 30 c4 l1 w4 (HM.out.to_below (fun _ _ h => h)).size HOW4.out (by have := r3.out; omega)).mono ?_
  rintro e w5 ⟨A5, c5, rfl, hrow5, hown5⟩
  have hb5 : Below w3.heap.size w3 w5 := ((HM.out.only.mono (fun _ _ h => h.elim)).trans (hown5.1.mono (fun i _ h => own_base HOW4.out h.symm)) (fun _ _ h => h)).below (Nat.le_refl _) (fun i hi h => by omega)
  have HRE := Lib.hid (row8_reads hrow5)
  have hm := (Mem.start (fun _ => False) w3).below hb5
  clear hrow5 hown5 hb5
  clear HM
  have HM := Lib.hid hm
  clear hm
  refine hK.out _ _ ?_ (fun hHeld => ?_)
  · exact HC3.out _ (HM.out.to_below (fun _ _ h => h))
  clear hK K
  try simp only [Act.put, List.setIfInBounds_toArray, List.set_cons_zero, List.set_cons_succ]
  refine wpAnyH_ready (rs := [7]) (by kernel_rfl) (by simp) ?_
  refine AllReadyH.cons (o := ⟨_, _, _, _, _, _⟩) rfl (fun K hK => ?_) AllReadyH.nil
  have hcv := conv_str (c := c5) HRE.out
  rw [HS3.out] at hcv
  go_simp
  refine hK.out _ _ ?_ (fun hHeld => ?_)
  · exact HC3.out _ (HM.out.to_below (fun _ _ h => h))
  clear hK K
  try simp only [Act.put, List.setIfInBounds_toArray, List.set_cons_zero, List.set_cons_succ]
  refine wpAnyH_take (i := 8) (oi := ⟨_, _, _, _, _, _⟩) (v := ?_) rfl (by kernel_rfl) (by kernel_rfl) (by kernel_rfl) (fun _ _ _ h => h) (Or.inl ⟨by rfl, ?_⟩) (by assumption) ?_
  rotate_left
  · intro w hSw; (try dsimp only at hSw); go_split_ands; go_simp; try with_reducible rfl
  try simp only [Act.put, List.setIfInBounds_toArray, List.set_cons_zero, List.set_cons_succ]
  refine wpAnyH_done (by kernel_rfl) ?_ _
  refine NoPanic.normal ?_
  skip

  have HB5 : Hid (Below w.heap.size w w5) := Lib.hid (HB3.out.trans ((HM.out.to_below (fun _ _ h => h)).mono HB3.out.size))
  have r1 : Hid (Row8 (w5.alloc (.cells #[] 5)) w5.heap.size (.slice (some ⟨w5.heap.size, 0, none⟩) 0 0) 0 []) := Lib.hid (own_new w5 5 1)
  have r4 : Hid (w5.heap.size ≤ (w5.alloc (.cells #[] 5)).heap.size) := Lib.hid (by simp)
  have r5 : Hid (Below w5.heap.size w5 (w5.alloc (.cells #[] 5))) := Lib.hid (((Mem.start (fun _ => False) w5).new 5 []).to_below (fun _ _ h => h))
  clear HC3 HS3 HR3 HB3 HM HOW4 HRE
  go_wp2_with fail
  refine (HRI0.out w5.heap.size (some ⟨w5.heap.size, 0, none⟩) 0 0 [] _ r4.out r1.out (Nat.le_refl _)).mono ?_
  rintro e w6 ⟨A6, c6, rfl, hrow6, hown6⟩
  have HB6 : Hid (Below w.heap.size w w6) := Lib.hid (HB5.out.trans ((((Only.of_below r5.out).trans (hown6.1.mono (fun i _ h => own_base r1.out h.symm)) (fun _ _ h => h)).below (Nat.le_refl _) (fun i hi h => by omega) : Below w5.heap.size w5 w6).mono HB5.out.size))
  have HR6 := Lib.hid (row8_reads hrow6)
  clear hrow6 hown6
  clear r1 r4 r5 HB5
  go_upto_region 7 with fail
  have HM : Hid (Mem (fun _ => False) w6 [] w6) := Lib.hid (Mem.start _ w6)
  have r1 : Hid ((w6.alloc (.cells #[] 5)).ownsRow w6.heap.size 5 1 (.slice (some ⟨w6.heap.size, 0, none⟩) 0 0) 0 (kv .u8 [])) := Lib.hid (own_new w6 5 1)
  have r5 : Hid (Below w6.heap.size w6 (w6.alloc (.cells #[] 5))) := Lib.hid (((Mem.start (fun _ => False) w6).new 5 []).to_below (fun _ _ h => h))
  have r2 : Hid (Reads (w6.alloc (.cells #[] 5)) w6.heap.size 1 A6 m (kv .u8 V)) := Lib.hid (HR6.out.below r5.out)
  go_wp2_with (first
    | (at_builtin
       refine wpList_append_any _ rfl (.tmp 34) (.tmp 35) _ rfl w6.heap.size 5 i0 _ 1 1 Try.underlying58 hi0 hz0 hz1 hz2 rfl (by omega) (.slice (some ⟨w6.heap.size, 0, none⟩) 0 0) _ (kv .u8 []) rfl r1.out _ A6 m c6 (kv .u8 V) rfl (r2.out) kv_one (by have := r3.out; simp only [maxLen]; omega) (by have := r3.out; omega) (by simp) ?_
       intro v1 w7 hown1 hg1 hat1
       rw [kv_append, Nat.zero_add, List.nil_append] at hown1
       obtain ⟨A7, c7, rfl, hr2⟩ := own_slice hown1
       have hm := (Mem.start (fun _ => False) w6).below ((((Only.of_below r5.out).trans (Only.of_grown (S := fun i => w6.heap.size ≤ i) hg1 (fun i hi => by simp [Value.ownBlock] at hi; omega)) (fun _ _ h => h)).below (Nat.le_refl _) (fun i hi h => by omega)) : Below w6.heap.size w6 w7)
       clear HM
       have HM := Lib.hid hm
       have HO7 := Lib.hid hown1
       clear hown1 hg1 hat1 hr2 hm r1 r2 r5
       try simp only [Act.put, List.setIfInBounds_toArray, List.set_cons_zero, List.set_cons_succ])
    | (at_builtin
       refine wpList_append_any _ rfl (.tmp 36) (.tmp 37) _ rfl w6.heap.size 5 i0 _ 1 1 Try.underlying58 hi0 hz0 hz1 hz2 rfl (by omega) (.slice A7 m c7) _ (kv .u8 V) rfl HO7.out _ (some ⟨b, o, none⟩) 30 c (kv .u8 l1) rfl (HL.out _ (HB6.out.trans ((HM.out.to_below (fun _ _ h => h)).mono HB6.out.size))) kv_one (by have := r3.out; simp only [maxLen]; omega) (by have := r3.out; omega) ((HM.out.to_below (fun _ _ h => h)).size) ?_
       intro v1 w8 hown1 hg1 hat1
       rw [kv_append] at hown1
       obtain ⟨A8, c8, rfl, hr2⟩ := own_slice hown1
       have hm := (Mem.start (fun _ => False) w6).below ((((HM.out.only.mono (fun _ _ h => h.elim)).trans (Only.of_grown (S := fun i => w6.heap.size ≤ i) hg1 (fun i hi => own_base HO7.out hi.symm)) (fun _ _ h => h)).below (Nat.le_refl _) (fun i hi h => by omega)) : Below w6.heap.size w6 w8)
       clear HM
       have HM := Lib.hid hm
       have HR8 := Lib.hid (row8_reads hown1)
       clear hown1 hg1 hat1 hr2 hm HO7
       try simp only [Act.put, List.setIfInBounds_toArray, List.set_cons_zero, List.set_cons_succ])
    | (go_at_call 40
       refine (HRD.out A8 c8 w8 HR8.out).mono ?_
       rintro e w8b ⟨rfl, rfl⟩
       clear HR8
       have r1 : Hid ((w8.alloc (.cells #[] 5)).ownsRow w8.heap.size 5 1 (.slice (some ⟨w8.heap.size, 0, none⟩) 0 0) 0 (kv .u8 [])) := Lib.hid (own_new w8 5 1)
       have HMA : Hid (Mem (fun _ => False) w6 [] (w8.alloc (.cells #[] 5))) := Lib.hid ((HM.out.new 5 []).tail)
       have HZ8 : Hid (w6.heap.size ≤ w8.heap.size) := Lib.hid (HM.out.to_below (fun _ _ h => h)).size
       have r2 : Hid (Reads (w8.alloc (.cells #[] 5)) w.heap.size 1 (some ⟨b, o, none⟩) 30 (kv .u8 l1)) := Lib.hid (HL.out _ (HB6.out.trans ((HMA.out.to_below (fun _ _ h => h)).mono HB6.out.size))))
    | (at_builtin
       refine wpList_append_any _ rfl (.tmp 52) (.tmp 53) _ rfl w8.heap.size 5 i0 _ 1 1 Try.underlying58 hi0 hz0 hz1 hz2 rfl (by omega) (.slice (some ⟨w8.heap.size, 0, none⟩) 0 0) _ (kv .u8 []) rfl r1.out _ (some ⟨b, o, none⟩) 30 c (kv .u8 l1) rfl (r2.out) kv_one (by have := r3.out; simp only [maxLen]; omega) (by have := r3.out; omega) (by simp) ?_
       intro v1 w9 hown1 hg1 hat1
       rw [kv_append, Nat.zero_add, List.nil_append] at hown1
       obtain ⟨A9, c9, rfl, hr2⟩ := own_slice hown1
       have hm := (Mem.start (fun _ => False) w6).below ((((HMA.out.only.mono (fun _ _ h => h.elim)).trans (Only.of_grown (S := fun i => w6.heap.size ≤ i) hg1 (fun i hi => by simp [Value.ownBlock] at hi; have := HZ8.out; omega)) (fun _ _ h => h)).below (Nat.le_refl _) (fun i hi h => by omega)) : Below w6.heap.size w6 w9)
       clear HM
       have HM := Lib.hid hm
       have HR9 := Lib.hid (row8_reads hown1)
       clear hown1 hg1 hat1 hr2 hm HMA
       try simp only [Act.put, List.setIfInBounds_toArray, List.set_cons_zero, List.set_cons_succ])
    | fail)
  refine (HRD1.out A9 c9 w9 HR9.out).mono ?_
  rintro e w9b ⟨he, rfl⟩
  clear HR9 r1 r2 HZ8
  have HZ9 : Hid (w6.heap.size ≤ w9.heap.size) := Lib.hid (HM.out.to_below (fun _ _ h => h)).size
  cases hrd : rd 0 0 l1 with
  | none =>
    rw [hrd] at he
    have he2 : e = .returned (.tuple #[.int .i64 0, .int .i64 0]) := he
    clear he
    subst he2
    by_cases hnm : 30 < m
    · have t1 : decide ((30 : Int) < (m : Int)) = true := by simp; omega
      have t2 : (30 : Int) < (m : Int) := by omega
      clear hnm hrd
      go_upto_region 12 with fail
      refine wp_region_noPanic ?_
      refine wp_region_held_drew (S := (fun _ => True)) (by kernel_rfl) ?_ (fun hHeld => ?_)
      · exact trivial
      have hm := HM.out.drew
      clear HM
      have HM := Lib.hid hm
      clear hm
      refine wpAnyH_take (i := 0) (oi := ⟨_, _, _, _, _, _⟩) (v := ?_) rfl (by kernel_rfl) (by kernel_rfl) (by kernel_rfl) (fun _ _ _ h => h) (Or.inl ⟨by rfl, ?_⟩) (by assumption) ?_
      rotate_left
      · intro w hSw; (try dsimp only at hSw); go_split_ands; go_simp; try with_reducible rfl
      try simp only [Act.put, List.setIfInBounds_toArray, List.set_cons_zero, List.set_cons_succ]
      refine wpAnyH_take (i := 1) (oi := ⟨_, _, _, _, _, _⟩) (v := ?_) rfl (by kernel_rfl) (by kernel_rfl) (by kernel_rfl) (fun _ _ _ h => h) (Or.inl ⟨by rfl, ?_⟩) (by assumption) ?_
      rotate_left
      · intro w hSw; (try dsimp only at hSw); go_split_ands; go_simp; try with_reducible rfl
      try simp only [Act.put, List.setIfInBounds_toArray, List.set_cons_zero, List.set_cons_succ]
      refine wpAnyH_take (i := 2) (oi := ⟨_, _, _, _, _, _⟩) (v := ?_) rfl (by kernel_rfl) (by kernel_rfl) (by kernel_rfl) (fun _ _ _ h => h) (Or.inl ⟨by rfl, ?_⟩) (by assumption) ?_
      rotate_left
      · intro w hSw; (try dsimp only at hSw); go_split_ands; go_simp; try with_reducible rfl
      try simp only [Act.put, List.setIfInBounds_toArray, List.set_cons_zero, List.set_cons_succ]
      refine wpAnyH_take (i := 3) (oi := ⟨_, _, _, _, _, _⟩) (v := ?_) rfl (by kernel_rfl) (by kernel_rfl) (by kernel_rfl) (fun _ _ _ h => h) (Or.inl ⟨by rfl, ?_⟩) (by assumption) ?_
      rotate_left
      · intro w hSw; (try dsimp only at hSw); go_split_ands; go_simp; try with_reducible rfl
      try simp only [Act.put, List.setIfInBounds_toArray, List.set_cons_zero, List.set_cons_succ]
      refine wpAnyH_take (i := 4) (oi := ⟨_, _, _, _, _, _⟩) (v := ?_) rfl (by kernel_rfl) (by kernel_rfl) (by kernel_rfl) (fun _ _ _ h => h) (Or.inl ⟨by rfl, ?_⟩) (by assumption) ?_
      rotate_left
      · intro w hSw; (try dsimp only at hSw); go_split_ands; go_simp; try with_reducible rfl
      try simp only [Act.put, List.setIfInBounds_toArray, List.set_cons_zero, List.set_cons_succ]
      refine wpAnyH_take (i := 5) (oi := ⟨_, _, _, _, _, _⟩) (v := ?_) rfl (by kernel_rfl) (by kernel_rfl) (by kernel_rfl) (fun _ _ _ h => h) (Or.inl ⟨by rfl, ?_⟩) (by assumption) ?_
      rotate_left
      · intro w hSw; (try dsimp only at hSw); go_split_ands; go_simp; try with_reducible rfl
      try simp only [Act.put, List.setIfInBounds_toArray, List.set_cons_zero, List.set_cons_succ]
      refine wpAnyH_take (i := 6) (oi := ⟨_, _, _, _, _, _⟩) (v := ?_) rfl (by kernel_rfl) (by kernel_rfl) (by kernel_rfl) (fun _ _ _ h => h) (Or.inl ⟨by rfl, ?_⟩) (by assumption) ?_
      rotate_left
      · intro w hSw; (try dsimp only at hSw); go_split_ands; go_simp; try with_reducible rfl
      try simp only [Act.put, List.setIfInBounds_toArray, List.set_cons_zero, List.set_cons_succ]
      refine wpAnyH_take (i := 7) (oi := ⟨_, _, _, _, _, _⟩) (v := ?_) rfl (by kernel_rfl) (by kernel_rfl) (by kernel_rfl) (fun _ _ _ h => h) (Or.inl ⟨by rfl, ?_⟩) (by assumption) ?_
      rotate_left
      · intro w hSw; (try dsimp only at hSw); go_split_ands; go_simp; try with_reducible rfl
      try simp only [Act.put, List.setIfInBounds_toArray, List.set_cons_zero, List.set_cons_succ]
      refine wpAnyH_take (i := 8) (oi := ⟨_, _, _, _, _, _⟩) (v := ?_) rfl (by kernel_rfl) (by kernel_rfl) (by kernel_rfl) (fun _ _ _ h => h) (Or.inl ⟨by rfl, ?_⟩) (by assumption) ?_
      rotate_left
      · intro w hSw; (try dsimp only at hSw); go_split_ands; go_simp; try with_reducible rfl
      try simp only [Act.put, List.setIfInBounds_toArray, List.set_cons_zero, List.set_cons_succ]
      refine wpAnyH_take (i := 9) (oi := ⟨_, _, _, _, _, _⟩) (v := undef) rfl (by kernel_rfl) (by kernel_rfl) (by kernel_rfl) (fun _ _ _ h => h) (Or.inr ⟨by rfl, rfl⟩) (by assumption) ?_
      try simp only [Act.put, List.setIfInBounds_toArray, List.set_cons_zero, List.set_cons_succ]
      refine wpAnyH_take (i := 10) (oi := ⟨_, _, _, _, _, _⟩) (v := undef) rfl (by kernel_rfl) (by kernel_rfl) (by kernel_rfl) (fun _ _ _ h => h) (Or.inr ⟨by rfl, rfl⟩) (by assumption) ?_
      try simp only [Act.put, List.setIfInBounds_toArray, List.set_cons_zero, List.set_cons_succ]
      refine wpAnyH_take (i := 11) (oi := ⟨_, _, _, _, _, _⟩) (v := undef) rfl (by kernel_rfl) (by kernel_rfl) (by kernel_rfl) (fun _ _ _ h => h) (Or.inr ⟨by rfl, rfl⟩) (by assumption) ?_
      try simp only [Act.put, List.setIfInBounds_toArray, List.set_cons_zero, List.set_cons_succ]
      refine wpAnyH_take (i := 12) (oi := ⟨_, _, _, _, _, _⟩) (v := undef) rfl (by kernel_rfl) (by kernel_rfl) (by kernel_rfl) (fun _ _ _ h => h) (Or.inr ⟨by rfl, rfl⟩) (by assumption) ?_
      try simp only [Act.put, List.setIfInBounds_toArray, List.set_cons_zero, List.set_cons_succ]
      refine wpAnyH_take (i := 13) (oi := ⟨_, _, _, _, _, _⟩) (v := undef) rfl (by kernel_rfl) (by kernel_rfl) (by kernel_rfl) (fun _ _ _ h => h) (Or.inr ⟨by rfl, rfl⟩) (by assumption) ?_
      try simp only [Act.put, List.setIfInBounds_toArray, List.set_cons_zero, List.set_cons_succ]
      refine wpAnyH_take (i := 14) (oi := ⟨_, _, _, _, _, _⟩) (v := undef) rfl (by kernel_rfl) (by kernel_rfl) (by kernel_rfl) (fun _ _ _ h => h) (Or.inr ⟨by rfl, rfl⟩) (by assumption) ?_
      try simp only [Act.put, List.setIfInBounds_toArray, List.set_cons_zero, List.set_cons_succ]
      refine wpAnyH_take (i := 15) (oi := ⟨_, _, _, _, _, _⟩) (v := undef) rfl (by kernel_rfl) (by kernel_rfl) (by kernel_rfl) (fun _ _ _ h => h) (Or.inr ⟨by rfl, rfl⟩) (by assumption) ?_
      try simp only [Act.put, List.setIfInBounds_toArray, List.set_cons_zero, List.set_cons_succ]
      refine wpAnyH_take (i := 16) (oi := ⟨_, _, _, _, _, _⟩) (v := undef) rfl (by kernel_rfl) (by kernel_rfl) (by kernel_rfl) (fun _ _ _ h => h) (Or.inr ⟨by rfl, rfl⟩) (by assumption) ?_
      try simp only [Act.put, List.setIfInBounds_toArray, List.set_cons_zero, List.set_cons_succ]
      refine wpAnyH_take (i := 17) (oi := ⟨_, _, _, _, _, _⟩) (v := ?_) rfl (by kernel_rfl) (by kernel_rfl) (by kernel_rfl) (fun _ _ _ h => h) (Or.inl ⟨by rfl, ?_⟩) (by assumption) ?_
      rotate_left
      · intro w hSw; (try dsimp only at hSw); go_split_ands; go_simp; try with_reducible rfl
      try simp only [Act.put, List.setIfInBounds_toArray, List.set_cons_zero, List.set_cons_succ]
      refine wpAnyH_take (i := 18) (oi := ⟨_, _, _, _, _, _⟩) (v := ?_) rfl (by kernel_rfl) (by kernel_rfl) (by kernel_rfl) (fun _ _ _ h => h) (Or.inl ⟨by rfl, ?_⟩) (by assumption) ?_
      rotate_left
      · intro w hSw; (try dsimp only at hSw); go_split_ands; go_simp; try with_reducible rfl
      try simp only [Act.put, List.setIfInBounds_toArray, List.set_cons_zero, List.set_cons_succ]
      refine wpAnyH_take (i := 19) (oi := ⟨_, _, _, _, _, _⟩) (v := ?_) rfl (by kernel_rfl) (by kernel_rfl) (by kernel_rfl) (fun _ _ _ h => h) (Or.inl ⟨by rfl, ?_⟩) (by assumption) ?_
      rotate_left
      · intro w hSw; (try dsimp only at hSw); go_split_ands; go_simp; try with_reducible rfl
      try simp only [Act.put, List.setIfInBounds_toArray, List.set_cons_zero, List.set_cons_succ]
      refine wpAnyH_ready (rs := [20]) (by kernel_rfl) (by simp) ?_
      refine AllReadyH.cons (o := ⟨_, _, _, _, _, _⟩) rfl (fun K hK => ?_) AllReadyH.nil
      go_simp
      go_at_call 33
      refine (lives29 _).mono ?_
      rintro e wx ⟨rfl, hb⟩
      have hm := HM.out.below hb
      clear HM hb
      have HM := Lib.hid hm
      clear hm
      refine hK.out _ _ ?_ (fun hHeld => ?_)
      · exact trivial
      clear hK K
      try simp only [Act.put, List.setIfInBounds_toArray, List.set_cons_zero, List.set_cons_succ]
      refine wpAnyH_take (i := 21) (oi := ⟨_, _, _, _, _, _⟩) (v := ?_) rfl (by kernel_rfl) (by kernel_rfl) (by kernel_rfl) (fun _ _ _ h => h) (Or.inl ⟨by rfl, ?_⟩) (by assumption) ?_
      rotate_left
      · intro w hSw; (try dsimp only at hSw); go_split_ands; go_simp; try with_reducible rfl
      try simp only [Act.put, List.setIfInBounds_toArray, List.set_cons_zero, List.set_cons_succ]
      refine wpAnyH_take (i := 22) (oi := ⟨_, _, _, _, _, _⟩) (v := ?_) rfl (by kernel_rfl) (by kernel_rfl) (by kernel_rfl) (fun _ _ _ h => h) (Or.inl ⟨by rfl, ?_⟩) (by assumption) ?_
      rotate_left
      · intro w hSw; (try dsimp only at hSw); go_split_ands; go_simp; try with_reducible rfl
      try simp only [Act.put, List.setIfInBounds_toArray, List.set_cons_zero, List.set_cons_succ]
      refine wpAnyH_done (by kernel_rfl) ?_ _
      refine NoPanic.normal ?_
      go_wp2_with fail
      go_ret
      exact ⟨rfl, HB6.out.trans ((HM.out.to_below (fun _ _ h => h)).mono HB6.out.size)⟩
    · have t1 : decide ((30 : Int) < (m : Int)) = false := by simp; omega
      have t2 : (m : Int) ≤ (30 : Int) := by omega
      have t3 : decide (30 < m) = false := by simp; omega
      have hL := HL.out w (Below.refl _ _)
      obtain ⟨b0, o0, hA1, -, -⟩ := hL.row (by omega) (by have := HMm.out; omega)
      cases hA1
      have t4 : m ≤ c := by have := HN.out; omega
      have t5 : (m : Int) ≤ (c : Int) := by omega
      have t6 : (0 : Int) ≤ (m : Int) := by omega
      obtain ⟨Sa, hSa⟩ : ∃ Sa, strOfNums (l1.take m) = Sa := ⟨_, rfl⟩
      obtain ⟨Sb, hSb⟩ : ∃ Sb, strOfNums V = Sb := ⟨_, rfl⟩
      have q3 : (Sa.toList == Sb.toList) = false := by
        rw [← hSa, ← hSb, beq_eq_false_iff_ne]
        intro h
        have h2 : strOfNums (l1.take m) = strOfNums V := by
          unfold strOfNums at h ⊢
          rw [ByteArray.toList_mk, ByteArray.toList_mk] at h
          rw [h]
        have h3 := str_inj _ _ (fun z hz => HBY.out z (List.mem_of_mem_take hz)) HVB.out h2
        have h4 := HRV.out (l1.drop m)
        rw [← h3, List.take_append_drop, hrd] at h4
        cases h4
      have hca : ∀ W, Below w6.heap.size w6 W → (convert 58 9 (.slice (some ⟨b, o, none⟩) m c)).run Try.prog W = .ok (.string Sa) W := fun W hW => by rw [← hSa]; exact conv_str (reads_take (HL.out _ (HB6.out.trans (hW.mono HB6.out.size))) m (by omega))
      have hcb : ∀ W, Below w6.heap.size w6 W → (convert 58 9 (.slice A6 m c6)).run Try.prog W = .ok (.string Sb) W := fun W hW => by rw [← hSb]; exact conv_str (HR6.out.below hW)
      have HCa := Lib.hid hca
      have HCb := Lib.hid hcb
      have HC0 : Hid (m ≤ c) := Lib.hid t4
      clear hnm hrd hL hca hcb hSa hSb
      go_upto_region 12 with fail
      refine wp_region_noPanic ?_
      refine wp_region_held_drew (S := (fun w' => (convert 58 9 (.slice (some ⟨b, o, none⟩) m c)).run Try.prog w' = .ok (.string Sa) w' ∧ (convert 58 9 (.slice A6 m c6)).run Try.prog w' = .ok (.string Sb) w')) (by kernel_rfl) ?_ (fun hHeld => ?_)
      · exact ⟨HCa.out _ (HM.out.to_below (fun _ _ h => h)).drew, HCb.out _ (HM.out.to_below (fun _ _ h => h)).drew⟩
      have hm := HM.out.drew
      clear HM
      have HM := Lib.hid hm
      clear hm
      refine wpAnyH_take (i := 0) (oi := ⟨_, _, _, _, _, _⟩) (v := ?_) rfl (by kernel_rfl) (by kernel_rfl) (by kernel_rfl) (fun _ _ _ h => h) (Or.inl ⟨by rfl, ?_⟩) (by assumption) ?_
      rotate_left
      · intro w hSw; (try dsimp only at hSw); go_split_ands; go_simp; try with_reducible rfl
      try simp only [Act.put, List.setIfInBounds_toArray, List.set_cons_zero, List.set_cons_succ]
      refine wpAnyH_take (i := 1) (oi := ⟨_, _, _, _, _, _⟩) (v := ?_) rfl (by kernel_rfl) (by kernel_rfl) (by kernel_rfl) (fun _ _ _ h => h) (Or.inl ⟨by rfl, ?_⟩) (by assumption) ?_
      rotate_left
      · intro w hSw; (try dsimp only at hSw); go_split_ands; go_simp; try with_reducible rfl
      try simp only [Act.put, List.setIfInBounds_toArray, List.set_cons_zero, List.set_cons_succ]
      refine wpAnyH_take (i := 2) (oi := ⟨_, _, _, _, _, _⟩) (v := ?_) rfl (by kernel_rfl) (by kernel_rfl) (by kernel_rfl) (fun _ _ _ h => h) (Or.inl ⟨by rfl, ?_⟩) (by assumption) ?_
      rotate_left
      · intro w hSw; (try dsimp only at hSw); go_split_ands; go_simp; try with_reducible rfl
      try simp only [Act.put, List.setIfInBounds_toArray, List.set_cons_zero, List.set_cons_succ]
      refine wpAnyH_take (i := 3) (oi := ⟨_, _, _, _, _, _⟩) (v := ?_) rfl (by kernel_rfl) (by kernel_rfl) (by kernel_rfl) (fun _ _ _ h => h) (Or.inl ⟨by rfl, ?_⟩) (by assumption) ?_
      rotate_left
      · intro w hSw; (try dsimp only at hSw); go_split_ands; go_simp; try with_reducible rfl
      try simp only [Act.put, List.setIfInBounds_toArray, List.set_cons_zero, List.set_cons_succ]
      refine wpAnyH_take (i := 4) (oi := ⟨_, _, _, _, _, _⟩) (v := ?_) rfl (by kernel_rfl) (by kernel_rfl) (by kernel_rfl) (fun _ _ _ h => h) (Or.inl ⟨by rfl, ?_⟩) (by assumption) ?_
      rotate_left
      · intro w hSw; (try dsimp only at hSw); go_split_ands; go_simp; try with_reducible rfl
      try simp only [Act.put, List.setIfInBounds_toArray, List.set_cons_zero, List.set_cons_succ]
      refine wpAnyH_take (i := 5) (oi := ⟨_, _, _, _, _, _⟩) (v := ?_) rfl (by kernel_rfl) (by kernel_rfl) (by kernel_rfl) (fun _ _ _ h => h) (Or.inl ⟨by rfl, ?_⟩) (by assumption) ?_
      rotate_left
      · intro w hSw; (try dsimp only at hSw); go_split_ands; go_simp; try with_reducible rfl
      try simp only [Act.put, List.setIfInBounds_toArray, List.set_cons_zero, List.set_cons_succ]
      refine wpAnyH_take (i := 6) (oi := ⟨_, _, _, _, _, _⟩) (v := ?_) rfl (by kernel_rfl) (by kernel_rfl) (by kernel_rfl) (fun _ _ _ h => h) (Or.inl ⟨by rfl, ?_⟩) (by assumption) ?_
      rotate_left
      · intro w hSw; (try dsimp only at hSw); go_split_ands; go_simp; try with_reducible rfl
      try simp only [Act.put, List.setIfInBounds_toArray, List.set_cons_zero, List.set_cons_succ]
      refine wpAnyH_take (i := 7) (oi := ⟨_, _, _, _, _, _⟩) (v := ?_) rfl (by kernel_rfl) (by kernel_rfl) (by kernel_rfl) (fun _ _ _ h => h) (Or.inl ⟨by rfl, ?_⟩) (by assumption) ?_
      rotate_left
      · intro w hSw; (try dsimp only at hSw); go_split_ands; go_simp; try with_reducible rfl
      try simp only [Act.put, List.setIfInBounds_toArray, List.set_cons_zero, List.set_cons_succ]
      refine wpAnyH_take (i := 8) (oi := ⟨_, _, _, _, _, _⟩) (v := ?_) rfl (by kernel_rfl) (by kernel_rfl) (by kernel_rfl) (fun _ _ _ h => h) (Or.inl ⟨by rfl, ?_⟩) (by assumption) ?_
      rotate_left
      · intro w hSw; (try dsimp only at hSw); go_split_ands; go_simp; try with_reducible rfl
      try simp only [Act.put, List.setIfInBounds_toArray, List.set_cons_zero, List.set_cons_succ]
      refine wpAnyH_take (i := 9) (oi := ⟨_, _, _, _, _, _⟩) (v := ?_) rfl (by kernel_rfl) (by kernel_rfl) (by kernel_rfl) (fun _ _ _ h => h) (Or.inl ⟨by rfl, ?_⟩) (by assumption) ?_
      rotate_left
      · intro w hSw; (try dsimp only at hSw); go_split_ands; go_simp; try with_reducible rfl
      try simp only [Act.put, List.setIfInBounds_toArray, List.set_cons_zero, List.set_cons_succ]
      refine wpAnyH_take (i := 10) (oi := ⟨_, _, _, _, _, _⟩) (v := ?_) rfl (by kernel_rfl) (by kernel_rfl) (by kernel_rfl) (fun _ _ _ h => h) (Or.inl ⟨by rfl, ?_⟩) (by assumption) ?_
      rotate_left
      · intro w hSw; (try dsimp only at hSw); go_split_ands; go_simp; try with_reducible rfl
      try simp only [Act.put, List.setIfInBounds_toArray, List.set_cons_zero, List.set_cons_succ]
      refine wpAnyH_take (i := 11) (oi := ⟨_, _, _, _, _, _⟩) (v := ?_) rfl (by kernel_rfl) (by kernel_rfl) (by kernel_rfl) (fun _ _ _ h => h) (Or.inl ⟨by rfl, ?_⟩) (by assumption) ?_
      rotate_left
      · intro w hSw; (try dsimp only at hSw); go_split_ands; go_simp; try with_reducible rfl
      try simp only [Act.put, List.setIfInBounds_toArray, List.set_cons_zero, List.set_cons_succ]
      refine wpAnyH_take (i := 12) (oi := ⟨_, _, _, _, _, _⟩) (v := ?_) rfl (by kernel_rfl) (by kernel_rfl) (by kernel_rfl) (fun _ _ _ h => h) (Or.inl ⟨by rfl, ?_⟩) (by assumption) ?_
      rotate_left
      · intro w hSw; (try dsimp only at hSw); go_split_ands; go_simp; try with_reducible rfl
      try simp only [Act.put, List.setIfInBounds_toArray, List.set_cons_zero, List.set_cons_succ]
      refine wpAnyH_take (i := 13) (oi := ⟨_, _, _, _, _, _⟩) (v := ?_) rfl (by kernel_rfl) (by kernel_rfl) (by kernel_rfl) (fun _ _ _ h => h) (Or.inl ⟨by rfl, ?_⟩) (by assumption) ?_
      rotate_left
      · intro w hSw; (try dsimp only at hSw); go_split_ands; go_simp; try with_reducible rfl
      try simp only [Act.put, List.setIfInBounds_toArray, List.set_cons_zero, List.set_cons_succ]
      refine wpAnyH_take (i := 14) (oi := ⟨_, _, _, _, _, _⟩) (v := ?_) rfl (by kernel_rfl) (by kernel_rfl) (by kernel_rfl) (fun _ _ _ h => h) (Or.inl ⟨by rfl, ?_⟩) (by assumption) ?_
      rotate_left
      · intro w hSw; (try dsimp only at hSw); go_split_ands; go_simp; try with_reducible rfl
      try simp only [Act.put, List.setIfInBounds_toArray, List.set_cons_zero, List.set_cons_succ]
      refine wpAnyH_take (i := 15) (oi := ⟨_, _, _, _, _, _⟩) (v := ?_) rfl (by kernel_rfl) (by kernel_rfl) (by kernel_rfl) (fun _ _ _ h => h) (Or.inl ⟨by rfl, ?_⟩) (by assumption) ?_
      rotate_left
      · intro w hSw; (try dsimp only at hSw); go_split_ands; go_simp; try with_reducible rfl
      try simp only [Act.put, List.setIfInBounds_toArray, List.set_cons_zero, List.set_cons_succ]
      refine wpAnyH_take (i := 16) (oi := ⟨_, _, _, _, _, _⟩) (v := ?_) rfl (by kernel_rfl) (by kernel_rfl) (by kernel_rfl) (fun _ _ _ h => h) (Or.inl ⟨by rfl, ?_⟩) (by assumption) ?_
      rotate_left
      · intro w hSw; (try dsimp only at hSw); go_split_ands; go_simp; try with_reducible rfl
      try simp only [Act.put, List.setIfInBounds_toArray, List.set_cons_zero, List.set_cons_succ]
      refine wpAnyH_take (i := 17) (oi := ⟨_, _, _, _, _, _⟩) (v := ?_) rfl (by kernel_rfl) (by kernel_rfl) (by kernel_rfl) (fun _ _ _ h => h) (Or.inl ⟨by rfl, ?_⟩) (by assumption) ?_
      rotate_left
      · intro w hSw; (try dsimp only at hSw); go_split_ands; go_simp; try with_reducible rfl
      try simp only [Act.put, List.setIfInBounds_toArray, List.set_cons_zero, List.set_cons_succ]
      refine wpAnyH_take (i := 18) (oi := ⟨_, _, _, _, _, _⟩) (v := ?_) rfl (by kernel_rfl) (by kernel_rfl) (by kernel_rfl) (fun _ _ _ h => h) (Or.inl ⟨by rfl, ?_⟩) (by assumption) ?_
      rotate_left
      · intro w hSw; (try dsimp only at hSw); go_split_ands; go_simp; try with_reducible rfl
      try simp only [Act.put, List.setIfInBounds_toArray, List.set_cons_zero, List.set_cons_succ]
      refine wpAnyH_take (i := 19) (oi := ⟨_, _, _, _, _, _⟩) (v := ?_) rfl (by kernel_rfl) (by kernel_rfl) (by kernel_rfl) (fun _ _ _ h => h) (Or.inl ⟨by rfl, ?_⟩) (by assumption) ?_
      rotate_left
      · intro w hSw; (try dsimp only at hSw); go_split_ands; go_simp; try with_reducible rfl
      try simp only [Act.put, List.setIfInBounds_toArray, List.set_cons_zero, List.set_cons_succ]
      refine wpAnyH_ready (rs := [20]) (by kernel_rfl) (by simp) ?_
      refine AllReadyH.cons (o := ⟨_, _, _, _, _, _⟩) rfl (fun K hK => ?_) AllReadyH.nil
      go_simp
      go_at_call 33
      refine (lives29 _).mono ?_
      rintro e wx ⟨rfl, hb⟩
      have hm := HM.out.below hb
      clear HM hb
      have HM := Lib.hid hm
      clear hm
      refine hK.out _ _ ?_ (fun hHeld => ?_)
      · exact ⟨HCa.out _ (HM.out.to_below (fun _ _ h => h)), HCb.out _ (HM.out.to_below (fun _ _ h => h))⟩
      clear hK K
      try simp only [Act.put, List.setIfInBounds_toArray, List.set_cons_zero, List.set_cons_succ]
      refine wpAnyH_take (i := 21) (oi := ⟨_, _, _, _, _, _⟩) (v := ?_) rfl (by kernel_rfl) (by kernel_rfl) (by kernel_rfl) (fun _ _ _ h => h) (Or.inl ⟨by rfl, ?_⟩) (by assumption) ?_
      rotate_left
      · intro w hSw; (try dsimp only at hSw); go_split_ands; go_simp; try with_reducible rfl
      try simp only [Act.put, List.setIfInBounds_toArray, List.set_cons_zero, List.set_cons_succ]
      refine wpAnyH_take (i := 22) (oi := ⟨_, _, _, _, _, _⟩) (v := ?_) rfl (by kernel_rfl) (by kernel_rfl) (by kernel_rfl) (fun _ _ _ h => h) (Or.inl ⟨by rfl, ?_⟩) (by assumption) ?_
      rotate_left
      · intro w hSw; (try dsimp only at hSw); go_split_ands; go_simp; try with_reducible rfl
      try simp only [Act.put, List.setIfInBounds_toArray, List.set_cons_zero, List.set_cons_succ]
      refine wpAnyH_done (by kernel_rfl) ?_ _
      refine NoPanic.normal ?_
      go_wp2_with fail
      go_ret
      exact ⟨rfl, HB6.out.trans ((HM.out.to_below (fun _ _ h => h)).mono HB6.out.size)⟩
  | some zs =>
    obtain ⟨Z, s⟩ := zs
    rw [hrd] at he
    have he2 : e = .returned (.tuple #[.int .i64 (zag Z), .int .i64 (s : Int)]) := he
    clear he
    subst he2
    obtain ⟨hts, hsn, hZ, hs0⟩ := vint_rd HBY.out hrd
    have hL := HL.out w (Below.refl _ _)
    have hlen := hL.klen
    obtain ⟨b0, o0, hA1, -, -⟩ := hL.row (by omega) (by omega)
    cases hA1
    have t0 : ((s : Int) == 0) = false := by simp; omega
    have t00 : (s : Int) ≠ 0 := by omega
    have t1 : decide ((s : Int) ≤ (30 : Int)) = true := by simp; omega
    have t3 : decide (s ≤ 30) = true := by simp; omega
    have t2 : (s : Int) ≤ (30 : Int) := by omega
    have t4 : s ≤ c := by have := HN.out; omega
    have t5 : (s : Int) ≤ (c : Int) := by omega
    have t6 : (0 : Int) ≤ (s : Int) := by omega
    have hzi := zag_in hZ
    have HRZ : Hid (∀ base A n c l W, base ≤ W.heap.size → Row8 W base (.slice A n c) n l → n ≤ 0 → Calls Try.prog 39 #[.slice A n c, .int .i64 (zag Z)] W fun e w' => ∃ A' c', e = .returned (.slice A' s c') ∧ Row8 w' base (.slice A' s c') s (l1.take s) ∧ OwnP W w' A n c A' s c') := Lib.hid (fun base A n c l W h1 h2 h3 => by
      have h4 : n = 0 := by omega
      subst h4
      have h5 : l = [] := List.eq_nil_of_length_eq_zero (by have := h2.1; simpa [kv] using this)
      subst h5
      have h6 : (vint (zag Z)).length = s := by rw [← hts]; simp; omega
      refine (rint_own base A 0 c [] (zag Z) W h1 h2 hzi (by omega)).mono ?_
      rintro e w' ⟨A', c', h7, h8, h9⟩
      rw [h6, Nat.zero_add] at h7 h8 h9
      rw [List.nil_append, ← hts] at h8
      exact ⟨A', c', h7, h8, h9⟩)
    obtain ⟨Sa, hSa⟩ : ∃ Sa, strOfNums (l1.take s) = Sa := ⟨_, rfl⟩
    have hca : ∀ W, Below w6.heap.size w6 W → (convert 58 9 (.slice (some ⟨b, o, none⟩) s c)).run Try.prog W = .ok (.string Sa) W := fun W hW => by rw [← hSa]; exact conv_str (reads_take (HL.out _ (HB6.out.trans (hW.mono HB6.out.size))) s (by omega))
    have HCa := Lib.hid hca
    have HSa := Lib.hid hSa
    clear hrd hts hsn hZ hs0 hL hlen hca hSa hzi
    go_upto_region 13 with fail
    refine wp_region_noPanic ?_
    refine wp_region_held_drew (S := (fun w' => (convert 58 9 (.slice (some ⟨b, o, none⟩) s c)).run Try.prog w' = .ok (.string Sa) w')) (by kernel_rfl) ?_ (fun hHeld => ?_)
    · exact HCa.out _ (HM.out.to_below (fun _ _ h => h)).drew
    have hm := HM.out.drew
    clear HM
    have HM := Lib.hid hm
    clear hm
    refine wpAnyH_take (i := 0) (oi := ⟨_, _, _, _, _, _⟩) (v := ?_) rfl (by kernel_rfl) (by kernel_rfl) (by kernel_rfl) (fun _ _ _ h => h) (Or.inl ⟨by rfl, ?_⟩) (by assumption) ?_
    rotate_left
    · intro w hSw; (try dsimp only at hSw); go_split_ands; go_simp; try with_reducible rfl
    try simp only [Act.put, List.setIfInBounds_toArray, List.set_cons_zero, List.set_cons_succ]
    refine wpAnyH_take (i := 1) (oi := ⟨_, _, _, _, _, _⟩) (v := ?_) rfl (by kernel_rfl) (by kernel_rfl) (by kernel_rfl) (fun _ _ _ h => h) (Or.inl ⟨by rfl, ?_⟩) (by assumption) ?_
    rotate_left
    · intro w hSw; (try dsimp only at hSw); go_split_ands; go_simp; try with_reducible rfl
    try simp only [Act.put, List.setIfInBounds_toArray, List.set_cons_zero, List.set_cons_succ]
    refine wpAnyH_take (i := 2) (oi := ⟨_, _, _, _, _, _⟩) (v := ?_) rfl (by kernel_rfl) (by kernel_rfl) (by kernel_rfl) (fun _ _ _ h => h) (Or.inl ⟨by rfl, ?_⟩) (by assumption) ?_
    rotate_left
    · intro w hSw; (try dsimp only at hSw); go_split_ands; go_simp; try with_reducible rfl
    try simp only [Act.put, List.setIfInBounds_toArray, List.set_cons_zero, List.set_cons_succ]
    refine wpAnyH_take (i := 3) (oi := ⟨_, _, _, _, _, _⟩) (v := ?_) rfl (by kernel_rfl) (by kernel_rfl) (by kernel_rfl) (fun _ _ _ h => h) (Or.inl ⟨by rfl, ?_⟩) (by assumption) ?_
    rotate_left
    · intro w hSw; (try dsimp only at hSw); go_split_ands; go_simp; try with_reducible rfl
    try simp only [Act.put, List.setIfInBounds_toArray, List.set_cons_zero, List.set_cons_succ]
    refine wpAnyH_take (i := 4) (oi := ⟨_, _, _, _, _, _⟩) (v := ?_) rfl (by kernel_rfl) (by kernel_rfl) (by kernel_rfl) (fun _ _ _ h => h) (Or.inl ⟨by rfl, ?_⟩) (by assumption) ?_
    rotate_left
    · intro w hSw; (try dsimp only at hSw); go_split_ands; go_simp; try with_reducible rfl
    try simp only [Act.put, List.setIfInBounds_toArray, List.set_cons_zero, List.set_cons_succ]
    refine wpAnyH_take (i := 6) (oi := ⟨_, _, _, _, _, _⟩) (v := ?_) rfl (by kernel_rfl) (by kernel_rfl) (by kernel_rfl) (fun _ _ _ h => h) (Or.inl ⟨by rfl, ?_⟩) (by assumption) ?_
    rotate_left
    · intro w hSw; (try dsimp only at hSw); go_split_ands; go_simp; try with_reducible rfl
    try simp only [Act.put, List.setIfInBounds_toArray, List.set_cons_zero, List.set_cons_succ]
    refine wpAnyH_take (i := 9) (oi := ⟨_, _, _, _, _, _⟩) (v := ?_) rfl (by kernel_rfl) (by kernel_rfl) (by kernel_rfl) (fun _ _ _ h => h) (Or.inl ⟨by rfl, ?_⟩) (by assumption) ?_
    rotate_left
    · intro w hSw; (try dsimp only at hSw); go_split_ands; go_simp; try with_reducible rfl
    try simp only [Act.put, List.setIfInBounds_toArray, List.set_cons_zero, List.set_cons_succ]
    refine wpAnyH_take (i := 10) (oi := ⟨_, _, _, _, _, _⟩) (v := ?_) rfl (by kernel_rfl) (by kernel_rfl) (by kernel_rfl) (fun _ _ _ h => h) (Or.inl ⟨by rfl, ?_⟩) (by assumption) ?_
    rotate_left
    · intro w hSw; (try dsimp only at hSw); go_split_ands; go_simp; try with_reducible rfl
    try simp only [Act.put, List.setIfInBounds_toArray, List.set_cons_zero, List.set_cons_succ]
    refine wpAnyH_take (i := 11) (oi := ⟨_, _, _, _, _, _⟩) (v := ?_) rfl (by kernel_rfl) (by kernel_rfl) (by kernel_rfl) (fun _ _ _ h => h) (Or.inl ⟨by rfl, ?_⟩) (by assumption) ?_
    rotate_left
    · intro w hSw; (try dsimp only at hSw); go_split_ands; go_simp; try with_reducible rfl
    try simp only [Act.put, List.setIfInBounds_toArray, List.set_cons_zero, List.set_cons_succ]
    refine wpAnyH_take (i := 12) (oi := ⟨_, _, _, _, _, _⟩) (v := ?_) rfl (by kernel_rfl) (by kernel_rfl) (by kernel_rfl) (fun _ _ _ h => h) (Or.inl ⟨by rfl, ?_⟩) (by assumption) ?_
    rotate_left
    · intro w hSw; (try dsimp only at hSw); go_split_ands; go_simp; try with_reducible rfl
    try simp only [Act.put, List.setIfInBounds_toArray, List.set_cons_zero, List.set_cons_succ]
    refine wpAnyH_ready (rs := [5]) (by kernel_rfl) (by simp) ?_
    refine AllReadyH.cons (o := ⟨_, _, _, _, _, _⟩) rfl (fun K hK => ?_) AllReadyH.nil
    go_simp
    have hm := (HM.out.new 5 []).tail
    clear HM
    have HM := Lib.hid hm
    clear hm
    refine hK.out _ _ ?_ (fun hHeld => ?_)
    · exact HCa.out _ (HM.out.to_below (fun _ _ h => h))
    clear hK K
    try simp only [Act.put, List.setIfInBounds_toArray, List.set_cons_zero, List.set_cons_succ]
    refine wpAnyH_ready (rs := [7]) (by kernel_rfl) (by simp) ?_
    refine AllReadyH.cons (o := ⟨_, _, _, _, _, _⟩) rfl (fun K hK => ?_) AllReadyH.nil
    go_simp
    go_at_call 39
    refine (HRZ.out w9.heap.size (some ⟨w9.heap.size, 0, none⟩) 0 0 [] _ (by simp) (own_new w9.drew 5 1) (by omega)).mono ?_
    rintro e wa ⟨Aa, ca, rfl, hrowa, howna⟩
    have hba : Below w6.heap.size w6 wa := (HM.out.only.mono (fun _ _ h => h.elim)).trans (howna.1.mono (fun i _ h => by have h2 := own_base (own_new w9.drew 5 1) h.symm; exact Nat.le_trans HZ9.out h2)) (fun _ _ h => h) |>.below (Nat.le_refl _) (fun i hi h => by omega)
    have HRE := Lib.hid (row8_reads hrowa)
    have hm := (Mem.start (fun _ => False) w6).below hba
    clear hrowa howna hba
    clear HM
    have HM := Lib.hid hm
    clear hm
    refine hK.out _ _ ?_ (fun hHeld => ?_)
    · exact HCa.out _ (HM.out.to_below (fun _ _ h => h))
    clear hK K
    try simp only [Act.put, List.setIfInBounds_toArray, List.set_cons_zero, List.set_cons_succ]
    refine wpAnyH_ready (rs := [8]) (by kernel_rfl) (by simp) ?_
    refine AllReadyH.cons (o := ⟨_, _, _, _, _, _⟩) rfl (fun K hK => ?_) AllReadyH.nil
    have hcv := conv_str (c := ca) HRE.out
    rw [HSa.out] at hcv
    go_simp
    refine hK.out _ _ ?_ (fun hHeld => ?_)
    · exact HCa.out _ (HM.out.to_below (fun _ _ h => h))
    clear hK K
    try simp only [Act.put, List.setIfInBounds_toArray, List.set_cons_zero, List.set_cons_succ]
    refine wpAnyH_take (i := 13) (oi := ⟨_, _, _, _, _, _⟩) (v := ?_) rfl (by kernel_rfl) (by kernel_rfl) (by kernel_rfl) (fun _ _ _ h => h) (Or.inl ⟨by rfl, ?_⟩) (by assumption) ?_
    rotate_left
    · intro w hSw; (try dsimp only at hSw); go_split_ands; go_simp; try with_reducible rfl
    try simp only [Act.put, List.setIfInBounds_toArray, List.set_cons_zero, List.set_cons_succ]
    refine wpAnyH_take (i := 14) (oi := ⟨_, _, _, _, _, _⟩) (v := ?_) rfl (by kernel_rfl) (by kernel_rfl) (by kernel_rfl) (fun _ _ _ h => h) (Or.inl ⟨by rfl, ?_⟩) (by assumption) ?_
    rotate_left
    · intro w hSw; (try dsimp only at hSw); go_split_ands; go_simp; try with_reducible rfl
    try simp only [Act.put, List.setIfInBounds_toArray, List.set_cons_zero, List.set_cons_succ]
    refine wpAnyH_take (i := 15) (oi := ⟨_, _, _, _, _, _⟩) (v := ?_) rfl (by kernel_rfl) (by kernel_rfl) (by kernel_rfl) (fun _ _ _ h => h) (Or.inl ⟨by rfl, ?_⟩) (by assumption) ?_
    rotate_left
    · intro w hSw; (try dsimp only at hSw); go_split_ands; go_simp; try with_reducible rfl
    try simp only [Act.put, List.setIfInBounds_toArray, List.set_cons_zero, List.set_cons_succ]
    refine wpAnyH_ready (rs := [16]) (by kernel_rfl) (by simp) ?_
    refine AllReadyH.cons (o := ⟨_, _, _, _, _, _⟩) rfl (fun K hK => ?_) AllReadyH.nil
    go_simp
    go_at_call 33
    refine (lives29 _).mono ?_
    rintro e wx ⟨rfl, hb⟩
    have hm := HM.out.below hb
    clear HM hb
    have HM := Lib.hid hm
    clear hm
    refine hK.out _ _ ?_ (fun hHeld => ?_)
    · exact HCa.out _ (HM.out.to_below (fun _ _ h => h))
    clear hK K
    try simp only [Act.put, List.setIfInBounds_toArray, List.set_cons_zero, List.set_cons_succ]
    refine wpAnyH_take (i := 17) (oi := ⟨_, _, _, _, _, _⟩) (v := ?_) rfl (by kernel_rfl) (by kernel_rfl) (by kernel_rfl) (fun _ _ _ h => h) (Or.inl ⟨by rfl, ?_⟩) (by assumption) ?_
    rotate_left
    · intro w hSw; (try dsimp only at hSw); go_split_ands; go_simp; try with_reducible rfl
    try simp only [Act.put, List.setIfInBounds_toArray, List.set_cons_zero, List.set_cons_succ]
    refine wpAnyH_take (i := 18) (oi := ⟨_, _, _, _, _, _⟩) (v := ?_) rfl (by kernel_rfl) (by kernel_rfl) (by kernel_rfl) (fun _ _ _ h => h) (Or.inl ⟨by rfl, ?_⟩) (by assumption) ?_
    rotate_left
    · intro w hSw; (try dsimp only at hSw); go_split_ands; go_simp; try with_reducible rfl
    try simp only [Act.put, List.setIfInBounds_toArray, List.set_cons_zero, List.set_cons_succ]
    refine wpAnyH_done (by kernel_rfl) ?_ _
    refine NoPanic.normal ?_
    go_wp2_with fail
    go_ret
    exact ⟨rfl, HB6.out.trans ((HM.out.to_below (fun _ _ h => h)).mono HB6.out.size)⟩
theorem codec_numbers (A : Option Addr) (n c : Nat) (l : List Int) (v : Int) (hv : -9223372036854775808 ≤ v ∧ v ≤ 9223372036854775807) (w : World) (hr : Reads w w.heap.size 1 A n (kv .u8 l)) (ho : okK .u8 l) (hnc : n ≤ c ∧ c ≤ maxLen) : Calls Try.prog 8 #[.slice A n c, .int .i64 v] w fun e w' => e = .returned (.bool true) ∧ Below w.heap.size w w' := by
  by_cases hn : n ≤ 30
  · exact numbers_way0 A n c l v hv w hr ho hn hnc
  · have hl := hr.klen
    obtain ⟨b, off, rfl, -, -⟩ := hr.row (by omega) (by omega)
    exact numbers_way1 b off n c l v hv w hr ho (by omega) hnc
end Go.Proofs.Ytencgokpbfkeiaa
