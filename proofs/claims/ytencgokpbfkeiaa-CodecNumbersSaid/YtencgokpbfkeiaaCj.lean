/- The document's Int of a number, saying which block it may write (layer 29). -/
import Derived.Test.YtencgokpbfkeiaaCi
set_option linter.unusedVariables false
set_option linter.unusedSimpArgs false
namespace Go.Proofs.Ytencgokpbfkeiaa
open Go.ChangeShapes Go.WideShapes Go.ChangeAt Go.RowKit
/-- a row that grew: nothing but its own old block was written; it lies there still, or in a new one -/
def OwnP (w w' : World) (A : Option Addr) (n c : Nat) (A' : Option Addr) (n' c' : Nat) : Prop := Only (fun i => some i = (Value.slice A n c).ownBlock) w w' ∧ ((Value.slice A' n' c').ownBlock = (Value.slice A n c).ownBlock ∨ ∃ k, (Value.slice A' n' c').ownBlock = some k ∧ w.heap.size ≤ k)
theorem OwnP.refl (w : World) (A : Option Addr) (n c : Nat) : OwnP w w A n c A n c := ⟨Only.refl _ _, .inl rfl⟩
theorem OwnP.step {w wr w1 : World} {A A1 A2 : Option Addr} {n c n1 c1 n2 c2 : Nat} {o : Obj} (h : OwnP w wr A n c A1 n1 c1) (hg : (wr.alloc o).grownBy w1 (Value.slice A1 n1 c1).ownBlock) (ha : (Value.slice A2 n2 c2).ownBlock = (Value.slice A1 n1 c1).ownBlock ∨ (Value.slice A2 n2 c2).ownBlock = some (wr.alloc o).heap.size) : OwnP w w1 A n c A2 n2 c2 := by
  refine ⟨(h.1.trans ((Only.refl (fun _ => False) wr).alloc o) (fun _ _ h => h.elim)).trans (Only.of_grown (S := fun i => some i = (Value.slice A1 n1 c1).ownBlock) hg (fun i hi => hi)) (fun i hi hs => ?_), ?_⟩
  · rcases h.2 with e | ⟨k, e, hk⟩
    · rw [e] at hs; exact hs
    · rw [e] at hs; cases hs; omega
  · rcases ha with ha | ha
    · rw [ha]; exact h.2
    · exact .inr ⟨_, ha, by have := h.1.size; simp; omega⟩
set_option maxRecDepth 100000 in
set_option maxHeartbeats 4000000 in
theorem rint_own (base : Nat) (A : Option Addr) (n c : Nat) (l : List Int) (v : Int) (w : World) (hbase : base ≤ w.heap.size) (ho : Row8 w base (.slice A n c) n l) (hv : -9223372036854775808 ≤ v ∧ v ≤ 9223372036854775807) (hn : n ≤ 1000000) :
    Calls Try.prog 39 #[.slice A n c, .int .i64 v] w fun e w' => ∃ A' c', e = .returned (.slice A' (n + (vint v).length) c') ∧ Row8 w' base (.slice A' (n + (vint v).length) c') (n + (vint v).length) (l ++ vint v) ∧ OwnP w w' A n c A' (n + (vint v).length) c' := by
  obtain ⟨i0, hi0, hz0, hz1, hz2⟩ := u8_parts
  obtain ⟨Z, hZ⟩ : ∃ Z, Z = zig v := ⟨_, rfl⟩
  have hZ64 : Z < 18446744073709551616 := by rw [hZ]; exact zig_lt hv
  have hV : vint v = vb Z := by rw [hZ]; rfl
  have hlen : (vb Z).length ≤ 10 := by rw [← hV]; exact vint_len hv
  rw [hV]
  have HO := Lib.hid ho
  have HB := Lib.hid hbase
  have HL := Lib.hid hlen
  have Z64 := Lib.hid hZ64
  have HN := Lib.hid hn
  have key : ∀ (W : Act → World → Prop), True := fun _ => trivial
  clear key ho hbase hlen hV hZ64 hn
  by_cases hs : 0 ≤ v
  · have s0 : decide (0 ≤ v) = true := by simpa using hs
    have s1 : IntKind.u64.wrap v = v := by rw [IntKind.wrap_u64]; omega
    have s2 : IntKind.u64.wrap (2 * v) = (Z : Int) := by rw [IntKind.wrap_u64, hZ]; unfold zig; rw [if_pos hs]; omega
    clear hZ hv hs
    go_enter Try.func39, Try.ntmps39
    go_wp2_with fail
    go_loopg [0, 5] Z (fun k b z wr => ∃ (zz : Nat) (A1 : Option Addr) (n1 c1 : Nat) (dn : List Int), zz = k ∧ z = .int .u64 (zz : Int) ∧ b = .slice A1 n1 c1 ∧ Hid (n1 = n + dn.length ∧ vb Z = dn ++ vb zz ∧ zz < 18446744073709551616) ∧ Hid (Row8 wr base (.slice A1 n1 c1) n1 (l ++ dn)) ∧ Hid (OwnP w wr A n c A1 n1 c1))
    case atStart => exact ⟨Z, A, n, c, [], rfl, by go_num, rfl, Lib.hid ⟨rfl, rfl, Z64.out⟩, Lib.hid (by rw [List.append_nil]; exact HO.out), Lib.hid (OwnP.refl _ _ _ _)⟩
    case round =>
      obtain ⟨zz, A1, n1, c1, dn, rfl, rfl, rfl, hF, hR, hW⟩ := hrel
      have hd : dn.length + (vb zz).length ≤ 10 := by have h1 := HL.out; rw [hF.out.2.1, List.length_append] at h1; exact h1
      have hp := vb_pos zz
      have hb : base ≤ wr.heap.size := Nat.le_trans HB.out hW.out.1.size
      have hn1 : n1 ≤ 1000010 := by have := HN.out; have := hF.out.1; omega
      have HB1 := Lib.hid hb
      have HN1 := Lib.hid hn1
      have HP := Lib.hid hp
      have HD := Lib.hid hd
      clear hp hd hb hn1
      by_cases hlt : 128 ≤ zz
      · obtain ⟨d, hd⟩ : ∃ d, d = zz % 128 := ⟨_, rfl⟩
        obtain ⟨q, hq⟩ : ∃ q, q = zz / 128 := ⟨_, rfl⟩
        have hd1 : d < 128 := by omega
        have t0 : decide (127 < (zz : Int)) = true := by simp; omega
        have t1 : (zz : Int).tmod 128 = (d : Int) := by rw [Int.tmod_eq_emod_of_nonneg (by omega)]; omega
        have t2 : IntKind.u64.wrap (128 + (d : Int)) = 128 + (d : Int) := by rw [IntKind.wrap_u64]; omega
        have t3 : IntKind.u8.wrap (128 + (d : Int)) = 128 + (d : Int) := by rw [IntKind.wrap_u8]; omega
        have t4 : (zz : Int).tdiv 128 = (q : Int) := by rw [Int.tdiv_eq_ediv_of_nonneg (by omega)]; omega
        have t5 : IntKind.u64.wrap (q : Int) = (q : Int) := by have := hF.out.2.2; rw [IntKind.wrap_u64]; omega
        have hvb : vb zz = (128 + (d : Int)) :: vb q := by rw [vb_big hlt, hd, hq]
        have HVB := Lib.hid hvb
        have HQ : Hid (q < zz ∧ q < 18446744073709551616) := Lib.hid (by have := hF.out.2.2; omega)
        have r1 : Hid ((wr.alloc (.cells #[.int .u8 (128 + (d : Int))] 5)).ownsRow base 5 1 (.slice A1 n1 c1) n1 (kv .u8 (l ++ dn))) := Lib.hid (((Only.refl (fun _ => False) wr).alloc _).own hR.out (fun _ _ h => h))
        have r2 : Hid (Reads (wr.alloc (.cells #[.int .u8 (128 + (d : Int))] 5)) (wr.alloc (.cells #[.int .u8 (128 + (d : Int))] 5)).heap.size 1 (some ⟨wr.heap.size, 0, none⟩) 1 (kv .u8 [128 + (d : Int)])) := Lib.hid (kreads_of_blk (l := [128 + (d : Int)]) (Blk.new wr 5 _) rfl)
        clear hd hq hd1 hvb hlt
        go_wp2_with (first
          | (at_builtin
             refine wpList_append_any _ rfl (.tmp 19) (.tmp 24) _ rfl base 5 i0 _ 1 1 Try.underlying58 hi0 hz0 hz1 hz2 rfl (by omega) (.slice A1 n1 c1) _ (kv .u8 (l ++ dn)) rfl r1.out _ _ 1 1 (kv .u8 [128 + (d : Int)]) rfl r2.out kv_one (by have := HN1.out; simp only [maxLen]; omega) (by have := HN1.out; omega) (by have := HB1.out; simp; omega) ?_
             intro v1 w1 hown1 hg1 hat1
             rw [kv_append] at hown1
             obtain ⟨A2, c2, rfl, hr2⟩ := own_slice hown1
             have q2 : Hid (OwnP w w1 A n c A2 (n1 + 1) c2) := Lib.hid (hW.out.step hg1 hat1)
             have q3 := Lib.hid hown1
             clear hown1 hg1 hat1 hr2)
          | fail)
        go_roundg q
        case measure => exact HQ.out.1
        case rel => exact ⟨q, A2, n1 + 1, c2, dn ++ [128 + (d : Int)], rfl, by go_num, rfl, Lib.hid ⟨by have := hF.out.1; simp; omega, by rw [hF.out.2.1, HVB.out]; simp, HQ.out.2⟩, Lib.hid (by rw [← List.append_assoc]; exact q3.out), q2⟩
      · have t0 : decide (127 < (zz : Int)) = false := by simp; omega
        have t3 : IntKind.u8.wrap (zz : Int) = (zz : Int) := by rw [IntKind.wrap_u8]; omega
        have HVB : Hid (vb zz = [(zz : Int)]) := Lib.hid (vb_small (by omega))
        have r1 : Hid ((wr.alloc (.cells #[.int .u8 (zz : Int)] 5)).ownsRow base 5 1 (.slice A1 n1 c1) n1 (kv .u8 (l ++ dn))) := Lib.hid (((Only.refl (fun _ => False) wr).alloc _).own hR.out (fun _ _ h => h))
        have r2 : Hid (Reads (wr.alloc (.cells #[.int .u8 (zz : Int)] 5)) (wr.alloc (.cells #[.int .u8 (zz : Int)] 5)).heap.size 1 (some ⟨wr.heap.size, 0, none⟩) 1 (kv .u8 [(zz : Int)])) := Lib.hid (kreads_of_blk (l := [(zz : Int)]) (Blk.new wr 5 _) rfl)
        clear hlt
        go_wp2_with (first
          | (at_builtin
             refine wpList_append_any _ rfl (.tmp 28) (.tmp 31) _ rfl base 5 i0 _ 1 1 Try.underlying58 hi0 hz0 hz1 hz2 rfl (by omega) (.slice A1 n1 c1) _ (kv .u8 (l ++ dn)) rfl r1.out _ _ 1 1 (kv .u8 [(zz : Int)]) rfl r2.out kv_one (by have := HN1.out; simp only [maxLen]; omega) (by have := HN1.out; omega) (by have := HB1.out; simp; omega) ?_
             intro v1 w1 hown1 hg1 hat1
             rw [kv_append] at hown1
             obtain ⟨A2, c2, rfl, hr2⟩ := own_slice hown1
             have q2 : Hid (OwnP w w1 A n c A2 (n1 + 1) c2) := Lib.hid (hW.out.step hg1 hat1)
             have q3 := Lib.hid hown1
             clear hown1 hg1 hat1 hr2)
          | fail)
        go_ret
        have e1 : n + (vb Z).length = n1 + 1 := by have := hF.out.1; rw [hF.out.2.1, HVB.out]; simp; omega
        have e2 : l ++ vb Z = l ++ dn ++ [(zz : Int)] := by rw [hF.out.2.1, HVB.out, List.append_assoc]
        rw [e1, e2]
        exact ⟨A2, c2, rfl, q3.out, q2.out⟩
  · have s0 : decide (0 ≤ v) = false := by simpa using hs
    have s1 : IntKind.i64.wrap (v + 1) = v + 1 := IntWalk.i64_in _ (by omega)
    have s2 : IntKind.i64.wrap (-(v + 1)) = -(v + 1) := IntWalk.i64_in _ (by omega)
    have s3 : IntKind.u64.wrap (-(v + 1)) = -(v + 1) := by rw [IntKind.wrap_u64]; omega
    have s4 : IntKind.u64.wrap (2 * -(v + 1)) = 2 * -(v + 1) := by rw [IntKind.wrap_u64]; omega
    have s5 : IntKind.u64.wrap (2 * -(v + 1) + 1) = (Z : Int) := by rw [IntKind.wrap_u64, hZ]; unfold zig; rw [if_neg hs]; omega
    clear hZ hv hs
    go_enter Try.func39, Try.ntmps39
    go_wp2_with fail
    go_loopg [0, 5] Z (fun k b z wr => ∃ (zz : Nat) (A1 : Option Addr) (n1 c1 : Nat) (dn : List Int), zz = k ∧ z = .int .u64 (zz : Int) ∧ b = .slice A1 n1 c1 ∧ Hid (n1 = n + dn.length ∧ vb Z = dn ++ vb zz ∧ zz < 18446744073709551616) ∧ Hid (Row8 wr base (.slice A1 n1 c1) n1 (l ++ dn)) ∧ Hid (OwnP w wr A n c A1 n1 c1))
    case atStart => exact ⟨Z, A, n, c, [], rfl, by go_num, rfl, Lib.hid ⟨rfl, rfl, Z64.out⟩, Lib.hid (by rw [List.append_nil]; exact HO.out), Lib.hid (OwnP.refl _ _ _ _)⟩
    case round =>
      obtain ⟨zz, A1, n1, c1, dn, rfl, rfl, rfl, hF, hR, hW⟩ := hrel
      have hd : dn.length + (vb zz).length ≤ 10 := by have h1 := HL.out; rw [hF.out.2.1, List.length_append] at h1; exact h1
      have hp := vb_pos zz
      have hb : base ≤ wr.heap.size := Nat.le_trans HB.out hW.out.1.size
      have hn1 : n1 ≤ 1000010 := by have := HN.out; have := hF.out.1; omega
      have HB1 := Lib.hid hb
      have HN1 := Lib.hid hn1
      have HP := Lib.hid hp
      have HD := Lib.hid hd
      clear hp hd hb hn1
      by_cases hlt : 128 ≤ zz
      · obtain ⟨d, hd⟩ : ∃ d, d = zz % 128 := ⟨_, rfl⟩
        obtain ⟨q, hq⟩ : ∃ q, q = zz / 128 := ⟨_, rfl⟩
        have hd1 : d < 128 := by omega
        have t0 : decide (127 < (zz : Int)) = true := by simp; omega
        have t1 : (zz : Int).tmod 128 = (d : Int) := by rw [Int.tmod_eq_emod_of_nonneg (by omega)]; omega
        have t2 : IntKind.u64.wrap (128 + (d : Int)) = 128 + (d : Int) := by rw [IntKind.wrap_u64]; omega
        have t3 : IntKind.u8.wrap (128 + (d : Int)) = 128 + (d : Int) := by rw [IntKind.wrap_u8]; omega
        have t4 : (zz : Int).tdiv 128 = (q : Int) := by rw [Int.tdiv_eq_ediv_of_nonneg (by omega)]; omega
        have t5 : IntKind.u64.wrap (q : Int) = (q : Int) := by have := hF.out.2.2; rw [IntKind.wrap_u64]; omega
        have hvb : vb zz = (128 + (d : Int)) :: vb q := by rw [vb_big hlt, hd, hq]
        have HVB := Lib.hid hvb
        have HQ : Hid (q < zz ∧ q < 18446744073709551616) := Lib.hid (by have := hF.out.2.2; omega)
        have r1 : Hid ((wr.alloc (.cells #[.int .u8 (128 + (d : Int))] 5)).ownsRow base 5 1 (.slice A1 n1 c1) n1 (kv .u8 (l ++ dn))) := Lib.hid (((Only.refl (fun _ => False) wr).alloc _).own hR.out (fun _ _ h => h))
        have r2 : Hid (Reads (wr.alloc (.cells #[.int .u8 (128 + (d : Int))] 5)) (wr.alloc (.cells #[.int .u8 (128 + (d : Int))] 5)).heap.size 1 (some ⟨wr.heap.size, 0, none⟩) 1 (kv .u8 [128 + (d : Int)])) := Lib.hid (kreads_of_blk (l := [128 + (d : Int)]) (Blk.new wr 5 _) rfl)
        clear hd hq hd1 hvb hlt
        go_wp2_with (first
          | (at_builtin
             refine wpList_append_any _ rfl (.tmp 19) (.tmp 24) _ rfl base 5 i0 _ 1 1 Try.underlying58 hi0 hz0 hz1 hz2 rfl (by omega) (.slice A1 n1 c1) _ (kv .u8 (l ++ dn)) rfl r1.out _ _ 1 1 (kv .u8 [128 + (d : Int)]) rfl r2.out kv_one (by have := HN1.out; simp only [maxLen]; omega) (by have := HN1.out; omega) (by have := HB1.out; simp; omega) ?_
             intro v1 w1 hown1 hg1 hat1
             rw [kv_append] at hown1
             obtain ⟨A2, c2, rfl, hr2⟩ := own_slice hown1
             have q2 : Hid (OwnP w w1 A n c A2 (n1 + 1) c2) := Lib.hid (hW.out.step hg1 hat1)
             have q3 := Lib.hid hown1
             clear hown1 hg1 hat1 hr2)
          | fail)
        go_roundg q
        case measure => exact HQ.out.1
        case rel => exact ⟨q, A2, n1 + 1, c2, dn ++ [128 + (d : Int)], rfl, by go_num, rfl, Lib.hid ⟨by have := hF.out.1; simp; omega, by rw [hF.out.2.1, HVB.out]; simp, HQ.out.2⟩, Lib.hid (by rw [← List.append_assoc]; exact q3.out), q2⟩
      · have t0 : decide (127 < (zz : Int)) = false := by simp; omega
        have t3 : IntKind.u8.wrap (zz : Int) = (zz : Int) := by rw [IntKind.wrap_u8]; omega
        have HVB : Hid (vb zz = [(zz : Int)]) := Lib.hid (vb_small (by omega))
        have r1 : Hid ((wr.alloc (.cells #[.int .u8 (zz : Int)] 5)).ownsRow base 5 1 (.slice A1 n1 c1) n1 (kv .u8 (l ++ dn))) := Lib.hid (((Only.refl (fun _ => False) wr).alloc _).own hR.out (fun _ _ h => h))
        have r2 : Hid (Reads (wr.alloc (.cells #[.int .u8 (zz : Int)] 5)) (wr.alloc (.cells #[.int .u8 (zz : Int)] 5)).heap.size 1 (some ⟨wr.heap.size, 0, none⟩) 1 (kv .u8 [(zz : Int)])) := Lib.hid (kreads_of_blk (l := [(zz : Int)]) (Blk.new wr 5 _) rfl)
        clear hlt
        go_wp2_with (first
          | (at_builtin
             refine wpList_append_any _ rfl (.tmp 28) (.tmp 31) _ rfl base 5 i0 _ 1 1 Try.underlying58 hi0 hz0 hz1 hz2 rfl (by omega) (.slice A1 n1 c1) _ (kv .u8 (l ++ dn)) rfl r1.out _ _ 1 1 (kv .u8 [(zz : Int)]) rfl r2.out kv_one (by have := HN1.out; simp only [maxLen]; omega) (by have := HN1.out; omega) (by have := HB1.out; simp; omega) ?_
             intro v1 w1 hown1 hg1 hat1
             rw [kv_append] at hown1
             obtain ⟨A2, c2, rfl, hr2⟩ := own_slice hown1
             have q2 : Hid (OwnP w w1 A n c A2 (n1 + 1) c2) := Lib.hid (hW.out.step hg1 hat1)
             have q3 := Lib.hid hown1
             clear hown1 hg1 hat1 hr2)
          | fail)
        go_ret
        have e1 : n + (vb Z).length = n1 + 1 := by have := hF.out.1; rw [hF.out.2.1, HVB.out]; simp; omega
        have e2 : l ++ vb Z = l ++ dn ++ [(zz : Int)] := by rw [hF.out.2.1, HVB.out, List.append_assoc]
        rw [e1, e2]
        exact ⟨A2, c2, rfl, q3.out, q2.out⟩
end Go.Proofs.Ytencgokpbfkeiaa
