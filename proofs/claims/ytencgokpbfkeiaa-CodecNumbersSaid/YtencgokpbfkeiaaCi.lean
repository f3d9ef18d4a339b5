/- A number's bytes, written and read, by the code and by the document (layer 29). -/
import Derived.Test.YtencgokpbfkeiaaVb
import Derived.Test.YtencgokpbfkeiaaTr
import Derived.Lib.SmallJoins
import Derived.Lib.VarintBits
import Derived.Lib.Varint
import Derived.Lib.Zigzag
import Derived.Deep.LoopGhost
import Derived.Laws.CopyOwn
import Derived.Deep.DeepCutAuto
set_option linter.unusedVariables false
set_option linter.unusedSimpArgs false
namespace Go.Proofs.Ytencgokpbfkeiaa
open Go.ChangeShapes Go.WideShapes Go.ChangeAt Go.RowKit
theorem u8_info : (Try.prog.info? 5).map (fun i => (i.zero, i.zero.map (·.cells.size), i.size, i.bytes)) = some (some (.int .u8 0), some 1, 1, 1) := by kernel_rfl
theorem u8_parts : ∃ i, Try.prog.info? 5 = some i ∧ i.zero = some (.int .u8 0) ∧ i.size = 1 ∧ i.bytes = 1 := by
  have h := u8_info
  cases hi : Try.prog.info? 5 with
  | none => rw [hi] at h; cases h
  | some i =>
    rw [hi] at h
    simp only [Option.map_some, Option.some.injEq, Prod.mk.injEq] at h
    exact ⟨i, rfl, h.1, h.2.2.1, h.2.2.2⟩
theorem kreads_of_blk {k : IntKind} {w : World} {b : Nat} {t : TypeId} {l : List Int} {cs : Array Value} (hb : Blk w b t cs) (h : cs = (kv k l).toArray) : Reads w w.heap.size 1 (some ⟨b, 0, none⟩) l.length (kv k l) := by
  subst h
  refine ⟨by simp [kv], fun _ => ⟨_, rfl, hb.lt, fun j u hu => ?_⟩⟩
  have e : (⟨b, 0, none⟩ : Addr).add j = ⟨b, j, none⟩ := by unfold Addr.add; split <;> simp_all
  rw [e, hb.cell]
  simpa using hu
/-- one more byte -/
def Row8 (w : World) (base : Nat) (v : Value) (n : Nat) (l : List Int) : Prop := w.ownsRow base 5 1 v n (kv .u8 l)
set_option maxRecDepth 100000 in
set_option maxHeartbeats 4000000 in
theorem rint_any (base : Nat) (A : Option Addr) (n c : Nat) (l : List Int) (v : Int) (w : World) (hbase : base ≤ w.heap.size) (ho : Row8 w base (.slice A n c) n l) (hv : -9223372036854775808 ≤ v ∧ v ≤ 9223372036854775807) (hn : n ≤ 1000000) :
    Calls Try.prog 39 #[.slice A n c, .int .i64 v] w fun e w' => ∃ A' c', e = .returned (.slice A' (n + (vint v).length) c') ∧ Row8 w' base (.slice A' (n + (vint v).length) c') (n + (vint v).length) (l ++ vint v) ∧ Only (fun i => base ≤ i) w w' := by
  obtain ⟨i0, hi0, hz0, hz1, hz2⟩ := u8_parts
  obtain ⟨Z, hZ⟩ : ∃ Z, Z = zig v := ⟨_, rfl⟩
  have hZ64 : Z < 18446744073709551616 := by rw [hZ]; exact zig_lt hv
  have hV : vint v = vb Z := by rw [hZ]; rfl
  have hlen : (vb Z).length ≤ 10 := by rw [← hV]; exact vint_len hv
  rw [hV]
  have HO := Lib.hid ho
  have HB := Lib.hid hbase
  have HL := Lib.hid hlen
  have Z64 := Lib.hid hZ64
  have HN := Lib.hid hn
  have key : ∀ (W : Act → World → Prop), True := fun _ => trivial
  clear key ho hbase hlen hV hZ64 hn
  by_cases hs : 0 ≤ v
  · have s0 : decide (0 ≤ v) = true := by simpa using hs
    have s1 : IntKind.u64.wrap v = v := by rw [IntKind.wrap_u64]; omega
    have s2 : IntKind.u64.wrap (2 * v) = (Z : Int) := by rw [IntKind.wrap_u64, hZ]; unfold zig; rw [if_pos hs]; omega
    clear hZ hv hs
    go_enter Try.func39, Try.ntmps39
    go_wp2_with fail
    go_loopg [0, 5] Z (fun k b z wr => ∃ (zz : Nat) (A1 : Option Addr) (n1 c1 : Nat) (dn : List Int), zz = k ∧ z = .int .u64 (zz : Int) ∧ b = .slice A1 n1 c1 ∧ Hid (n1 = n + dn.length ∧ vb Z = dn ++ vb zz ∧ zz < 18446744073709551616) ∧ Hid (Row8 wr base (.slice A1 n1 c1) n1 (l ++ dn)) ∧ Hid (Only (fun i => base ≤ i) w wr))
    case atStart => exact ⟨Z, A, n, c, [], rfl, by go_num, rfl, Lib.hid ⟨rfl, rfl, Z64.out⟩, Lib.hid (by rw [List.append_nil]; exact HO.out), Lib.hid (Only.refl _ _)⟩
    case round =>
      obtain ⟨zz, A1, n1, c1, dn, rfl, rfl, rfl, hF, hR, hW⟩ := hrel
      have hd : dn.length + (vb zz).length ≤ 10 := by have h1 := HL.out; rw [hF.out.2.1, List.length_append] at h1; exact h1
      have hp := vb_pos zz
      have hb : base ≤ wr.heap.size := Nat.le_trans HB.out hW.out.size
      have hn1 : n1 ≤ 1000010 := by have := HN.out; have := hF.out.1; omega
      have HB1 := Lib.hid hb
      have HN1 := Lib.hid hn1
      have HP := Lib.hid hp
      have HD := Lib.hid hd
      clear hp hd hb hn1
      by_cases hlt : 128 ≤ zz
      · obtain ⟨d, hd⟩ : ∃ d, d = zz % 128 := ⟨_, rfl⟩
        obtain ⟨q, hq⟩ : ∃ q, q = zz / 128 := ⟨_, rfl⟩
        have hd1 : d < 128 := by omega
        have t0 : decide (127 < (zz : Int)) = true := by simp; omega
        have t1 : (zz : Int).tmod 128 = (d : Int) := by rw [Int.tmod_eq_emod_of_nonneg (by omega)]; omega
        have t2 : IntKind.u64.wrap (128 + (d : Int)) = 128 + (d : Int) := by rw [IntKind.wrap_u64]; omega
        have t3 : IntKind.u8.wrap (128 + (d : Int)) = 128 + (d : Int) := by rw [IntKind.wrap_u8]; omega
        have t4 : (zz : Int).tdiv 128 = (q : Int) := by rw [Int.tdiv_eq_ediv_of_nonneg (by omega)]; omega
        have t5 : IntKind.u64.wrap (q : Int) = (q : Int) := by have := hF.out.2.2; rw [IntKind.wrap_u64]; omega
        have hvb : vb zz = (128 + (d : Int)) :: vb q := by rw [vb_big hlt, hd, hq]
        have HVB := Lib.hid hvb
        have HQ : Hid (q < zz ∧ q < 18446744073709551616) := Lib.hid (by have := hF.out.2.2; omega)
        have r1 : Hid ((wr.alloc (.cells #[.int .u8 (128 + (d : Int))] 5)).ownsRow base 5 1 (.slice A1 n1 c1) n1 (kv .u8 (l ++ dn))) := Lib.hid (((Only.refl (fun _ => False) wr).alloc _).own hR.out (fun _ _ h => h))
        have r2 : Hid (Reads (wr.alloc (.cells #[.int .u8 (128 + (d : Int))] 5)) (wr.alloc (.cells #[.int .u8 (128 + (d : Int))] 5)).heap.size 1 (some ⟨wr.heap.size, 0, none⟩) 1 (kv .u8 [128 + (d : Int)])) := Lib.hid (kreads_of_blk (l := [128 + (d : Int)]) (Blk.new wr 5 _) rfl)
        clear hd hq hd1 hvb hlt
        go_wp2_with (first
          | (at_builtin
             refine wpList_append_any _ rfl (.tmp 19) (.tmp 24) _ rfl base 5 i0 _ 1 1 Try.underlying58 hi0 hz0 hz1 hz2 rfl (by omega) (.slice A1 n1 c1) _ (kv .u8 (l ++ dn)) rfl r1.out _ _ 1 1 (kv .u8 [128 + (d : Int)]) rfl r2.out kv_one (by have := HN1.out; simp only [maxLen]; omega) (by have := HN1.out; omega) (by have := HB1.out; simp; omega) ?_
             intro v1 w1 hown1 hg1 hat1
             rw [kv_append] at hown1
             obtain ⟨A2, c2, rfl, hr2⟩ := own_slice hown1
             have q2 : Hid (Only (fun i => base ≤ i) w w1) := Lib.hid (((hW.out).trans ((Only.refl (fun i => base ≤ i) wr).alloc _) (fun _ _ h => h)).trans (Only.of_grown (S := fun i => base ≤ i) hg1 (fun i hi => (r1.out.lt i hi.symm).1)) (fun _ _ h => h))
             have q3 := Lib.hid hown1
             clear hown1 hg1 hat1 hr2)
          | fail)
        go_roundg q
        case measure => exact HQ.out.1
        case rel => exact ⟨q, A2, n1 + 1, c2, dn ++ [128 + (d : Int)], rfl, by go_num, rfl, Lib.hid ⟨by have := hF.out.1; simp; omega, by rw [hF.out.2.1, HVB.out]; simp, HQ.out.2⟩, Lib.hid (by rw [← List.append_assoc]; exact q3.out), q2⟩
      · have t0 : decide (127 < (zz : Int)) = false := by simp; omega
        have t3 : IntKind.u8.wrap (zz : Int) = (zz : Int) := by rw [IntKind.wrap_u8]; omega
        have HVB : Hid (vb zz = [(zz : Int)]) := Lib.hid (vb_small (by omega))
        have r1 : Hid ((wr.alloc (.cells #[.int .u8 (zz : Int)] 5)).ownsRow base 5 1 (.slice A1 n1 c1) n1 (kv .u8 (l ++ dn))) := Lib.hid (((Only.refl (fun _ => False) wr).alloc _).own hR.out (fun _ _ h => h))
        have r2 : Hid (Reads (wr.alloc (.cells #[.int .u8 (zz : Int)] 5)) (wr.alloc (.cells #[.int .u8 (zz : Int)] 5)).heap.size 1 (some ⟨wr.heap.size, 0, none⟩) 1 (kv .u8 [(zz : Int)])) := Lib.hid (kreads_of_blk (l := [(zz : Int)]) (Blk.new wr 5 _) rfl)
        clear hlt
        go_wp2_with (first
          | (at_builtin
             refine wpList_append_any _ rfl (.tmp 28) (.tmp 31) _ rfl base 5 i0 _ 1 1 Try.underlying58 hi0 hz0 hz1 hz2 rfl (by omega) (.slice A1 n1 c1) _ (kv .u8 (l ++ dn)) rfl r1.out _ _ 1 1 (kv .u8 [(zz : Int)]) rfl r2.out kv_one (by have := HN1.out; simp only [maxLen]; omega) (by have := HN1.out; omega) (by have := HB1.out; simp; omega) ?_
             intro v1 w1 hown1 hg1 hat1
             rw [kv_append] at hown1
             obtain ⟨A2, c2, rfl, hr2⟩ := own_slice hown1
             have q2 : Hid (Only (fun i => base ≤ i) w w1) := Lib.hid (((hW.out).trans ((Only.refl (fun i => base ≤ i) wr).alloc _) (fun _ _ h => h)).trans (Only.of_grown (S := fun i => base ≤ i) hg1 (fun i hi => (r1.out.lt i hi.symm).1)) (fun _ _ h => h))
             have q3 := Lib.hid hown1
             clear hown1 hg1 hat1 hr2)
          | fail)
        go_ret
        have e1 : n + (vb Z).length = n1 + 1 := by have := hF.out.1; rw [hF.out.2.1, HVB.out]; simp; omega
        have e2 : l ++ vb Z = l ++ dn ++ [(zz : Int)] := by rw [hF.out.2.1, HVB.out, List.append_assoc]
        rw [e1, e2]
        exact ⟨A2, c2, rfl, q3.out, q2.out⟩
  · have s0 : decide (0 ≤ v) = false := by simpa using hs
    have s1 : IntKind.i64.wrap (v + 1) = v + 1 := IntWalk.i64_in _ (by omega)
    have s2 : IntKind.i64.wrap (-(v + 1)) = -(v + 1) := IntWalk.i64_in _ (by omega)
    have s3 : IntKind.u64.wrap (-(v + 1)) = -(v + 1) := by rw [IntKind.wrap_u64]; omega
    have s4 : IntKind.u64.wrap (2 * -(v + 1)) = 2 * -(v + 1) := by rw [IntKind.wrap_u64]; omega
    have s5 : IntKind.u64.wrap (2 * -(v + 1) + 1) = (Z : Int) := by rw [IntKind.wrap_u64, hZ]; unfold zig; rw [if_neg hs]; omega
    clear hZ hv hs
    go_enter Try.func39, Try.ntmps39
    go_wp2_with fail
    go_loopg [0, 5] Z (fun k b z wr => ∃ (zz : Nat) (A1 : Option Addr) (n1 c1 : Nat) (dn : List Int), zz = k ∧ z = .int .u64 (zz : Int) ∧ b = .slice A1 n1 c1 ∧ Hid (n1 = n + dn.length ∧ vb Z = dn ++ vb zz ∧ zz < 18446744073709551616) ∧ Hid (Row8 wr base (.slice A1 n1 c1) n1 (l ++ dn)) ∧ Hid (Only (fun i => base ≤ i) w wr))
    case atStart => exact ⟨Z, A, n, c, [], rfl, by go_num, rfl, Lib.hid ⟨rfl, rfl, Z64.out⟩, Lib.hid (by rw [List.append_nil]; exact HO.out), Lib.hid (Only.refl _ _)⟩
    case round =>
      obtain ⟨zz, A1, n1, c1, dn, rfl, rfl, rfl, hF, hR, hW⟩ := hrel
      have hd : dn.length + (vb zz).length ≤ 10 := by have h1 := HL.out; rw [hF.out.2.1, List.length_append] at h1; exact h1
      have hp := vb_pos zz
      have hb : base ≤ wr.heap.size := Nat.le_trans HB.out hW.out.size
      have hn1 : n1 ≤ 1000010 := by have := HN.out; have := hF.out.1; omega
      have HB1 := Lib.hid hb
      have HN1 := Lib.hid hn1
      have HP := Lib.hid hp
      have HD := Lib.hid hd
      clear hp hd hb hn1
      by_cases hlt : 128 ≤ zz
      · obtain ⟨d, hd⟩ : ∃ d, d = zz % 128 := ⟨_, rfl⟩
        obtain ⟨q, hq⟩ : ∃ q, q = zz / 128 := ⟨_, rfl⟩
        have hd1 : d < 128 := by omega
        have t0 : decide (127 < (zz : Int)) = true := by simp; omega
        have t1 : (zz : Int).tmod 128 = (d : Int) := by rw [Int.tmod_eq_emod_of_nonneg (by omega)]; omega
        have t2 : IntKind.u64.wrap (128 + (d : Int)) = 128 + (d : Int) := by rw [IntKind.wrap_u64]; omega
        have t3 : IntKind.u8.wrap (128 + (d : Int)) = 128 + (d : Int) := by rw [IntKind.wrap_u8]; omega
        have t4 : (zz : Int).tdiv 128 = (q : Int) := by rw [Int.tdiv_eq_ediv_of_nonneg (by omega)]; omega
        have t5 : IntKind.u64.wrap (q : Int) = (q : Int) := by have := hF.out.2.2; rw [IntKind.wrap_u64]; omega
        have hvb : vb zz = (128 + (d : Int)) :: vb q := by rw [vb_big hlt, hd, hq]
        have HVB := Lib.hid hvb
        have HQ : Hid (q < zz ∧ q < 18446744073709551616) := Lib.hid (by have := hF.out.2.2; omega)
        have r1 : Hid ((wr.alloc (.cells #[.int .u8 (128 + (d : Int))] 5)).ownsRow base 5 1 (.slice A1 n1 c1) n1 (kv .u8 (l ++ dn))) := Lib.hid (((Only.refl (fun _ => False) wr).alloc _).own hR.out (fun _ _ h => h))
        have r2 : Hid (Reads (wr.alloc (.cells #[.int .u8 (128 + (d : Int))] 5)) (wr.alloc (.cells #[.int .u8 (128 + (d : Int))] 5)).heap.size 1 (some ⟨wr.heap.size, 0, none⟩) 1 (kv .u8 [128 + (d : Int)])) := Lib.hid (kreads_of_blk (l := [128 + (d : Int)]) (Blk.new wr 5 _) rfl)
        clear hd hq hd1 hvb hlt
        go_wp2_with (first
          | (at_builtin
             refine wpList_append_any _ rfl (.tmp 19) (.tmp 24) _ rfl base 5 i0 _ 1 1 Try.underlying58 hi0 hz0 hz1 hz2 rfl (by omega) (.slice A1 n1 c1) _ (kv .u8 (l ++ dn)) rfl r1.out _ _ 1 1 (kv .u8 [128 + (d : Int)]) rfl r2.out kv_one (by have := HN1.out; simp only [maxLen]; omega) (by have := HN1.out; omega) (by have := HB1.out; simp; omega) ?_
             intro v1 w1 hown1 hg1 hat1
             rw [kv_append] at hown1
             obtain ⟨A2, c2, rfl, hr2⟩ := own_slice hown1
             have q2 : Hid (Only (fun i => base ≤ i) w w1) := Lib.hid (((hW.out).trans ((Only.refl (fun i => base ≤ i) wr).alloc _) (fun _ _ h => h)).trans (Only.of_grown (S := fun i => base ≤ i) hg1 (fun i hi => (r1.out.lt i hi.symm).1)) (fun _ _ h => h))
             have q3 := Lib.hid hown1
             clear hown1 hg1 hat1 hr2)
          | fail)
        go_roundg q
        case measure => exact HQ.out.1
        case rel => exact ⟨q, A2, n1 + 1, c2, dn ++ [128 + (d : Int)], rfl, by go_num, rfl, Lib.hid ⟨by have := hF.out.1; simp; omega, by rw [hF.out.2.1, HVB.out]; simp, HQ.out.2⟩, Lib.hid (by rw [← List.append_assoc]; exact q3.out), q2⟩
      · have t0 : decide (127 < (zz : Int)) = false := by simp; omega
        have t3 : IntKind.u8.wrap (zz : Int) = (zz : Int) := by rw [IntKind.wrap_u8]; omega
        have HVB : Hid (vb zz = [(zz : Int)]) := Lib.hid (vb_small (by omega))
        have r1 : Hid ((wr.alloc (.cells #[.int .u8 (zz : Int)] 5)).ownsRow base 5 1 (.slice A1 n1 c1) n1 (kv .u8 (l ++ dn))) := Lib.hid (((Only.refl (fun _ => False) wr).alloc _).own hR.out (fun _ _ h => h))
        have r2 : Hid (Reads (wr.alloc (.cells #[.int .u8 (zz : Int)] 5)) (wr.alloc (.cells #[.int .u8 (zz : Int)] 5)).heap.size 1 (some ⟨wr.heap.size, 0, none⟩) 1 (kv .u8 [(zz : Int)])) := Lib.hid (kreads_of_blk (l := [(zz : Int)]) (Blk.new wr 5 _) rfl)
        clear hlt
        go_wp2_with (first
          | (at_builtin
             refine wpList_append_any _ rfl (.tmp 28) (.tmp 31) _ rfl base 5 i0 _ 1 1 Try.underlying58 hi0 hz0 hz1 hz2 rfl (by omega) (.slice A1 n1 c1) _ (kv .u8 (l ++ dn)) rfl r1.out _ _ 1 1 (kv .u8 [(zz : Int)]) rfl r2.out kv_one (by have := HN1.out; simp only [maxLen]; omega) (by have := HN1.out; omega) (by have := HB1.out; simp; omega) ?_
             intro v1 w1 hown1 hg1 hat1
             rw [kv_append] at hown1
             obtain ⟨A2, c2, rfl, hr2⟩ := own_slice hown1
             have q2 : Hid (Only (fun i => base ≤ i) w w1) := Lib.hid (((hW.out).trans ((Only.refl (fun i => base ≤ i) wr).alloc _) (fun _ _ h => h)).trans (Only.of_grown (S := fun i => base ≤ i) hg1 (fun i hi => (r1.out.lt i hi.symm).1)) (fun _ _ h => h))
             have q3 := Lib.hid hown1
             clear hown1 hg1 hat1 hr2)
          | fail)
        go_ret
        have e1 : n + (vb Z).length = n1 + 1 := by have := hF.out.1; rw [hF.out.2.1, HVB.out]; simp; omega
        have e2 : l ++ vb Z = l ++ dn ++ [(zz : Int)] := by rw [hF.out.2.1, HVB.out, List.append_assoc]
        rw [e1, e2]
        exact ⟨A2, c2, rfl, q3.out, q2.out⟩
theorem made8 (n m : Nat) (h : n ≤ m ∧ m ≤ 2000000) (W : World) : (Instr.makeSlice 58 (.int .i64 (n : Int)) (.int .i64 (m : Int))).run Try.prog W = .ok (.slice (some ⟨W.heap.size, 0, none⟩) n m) (W.alloc (.cells (madeCells #[.int .u8 0] m) 5)) := by
  obtain ⟨i, hi, hz, hs, hb⟩ := u8_parts
  have := run_make W 58 5 i (.int .u8 0) Try.underlying58 hi hz .i64 .i64 n m (by omega) (by omega) (by rw [hb]; omega) (by omega)
  rw [hs, Nat.mul_one] at this
  simp only [Int.toNat_natCast] at this
  exact this
theorem row_copied {w' : World} {base g n m : Nat} {cur : List Value} {l : List Int} (h : w'.heap[g]? = some (.cells (Go.splice cur 0 (kv .u8 l)).toArray 5 (0, 0))) (hc : cur.length = m) (hl : l.length = n) (hnm : n ≤ m) (hm : m ≤ maxLen) (hb : base ≤ g) : Row8 w' base (.slice (some ⟨g, 0, none⟩) n m) n l := by
  have hk : (kv .u8 l).length = n := by simp [kv, hl]
  refine ⟨by simp [kv, hl], .inr ⟨g, m, _, rfl, hb, h, hnm, hm, ?_, ?_⟩⟩
  · have := Go.length_splice cur 0 (kv .u8 l) (by omega)
    simp [this, hc]
  · simp [Go.splice, hk]
theorem zig_code {v : Int} (hv : -9223372036854775808 ≤ v ∧ v ≤ 9223372036854775807) : bits BinOp.xor IntKind.u64 (IntKind.u64.wrap (IntKind.u64.wrap v * 2)) (IntKind.u64.wrap (v / 9223372036854775808)) = ((zig v : Nat) : Int) := by
  by_cases h : 0 ≤ v
  · have e1 : IntKind.u64.wrap (IntKind.u64.wrap v * 2) = ((zig v : Nat) : Int) := by
      rw [IntKind.wrap_u64, IntKind.wrap_u64]; unfold zig; rw [if_pos h]; omega
    have e2 : IntKind.u64.wrap (v / 9223372036854775808) = ((0 : Nat) : Int) := by rw [IntKind.wrap_u64]; omega
    rw [e1, e2, bits_xor_u64_nat _ _ (zig_lt hv) (by decide), Nat.xor_zero]
  · have e1 : IntKind.u64.wrap (IntKind.u64.wrap v * 2) = (((2 * v + 18446744073709551616).toNat : Nat) : Int) := by
      rw [IntKind.wrap_u64, IntKind.wrap_u64]; omega
    have e2 : IntKind.u64.wrap (v / 9223372036854775808) = ((2 ^ 64 - 1 : Nat) : Int) := by rw [IntKind.wrap_u64]; omega
    rw [e1, e2, bits_xor_u64_nat _ _ (by omega) (by decide), Nat.xor_comm, Lib.xor_ones64 _ (by omega)]
    unfold zig
    rw [if_neg h]
    omega
set_option maxRecDepth 100000 in
set_option maxHeartbeats 4000000 in
theorem cint_any (A : Option Addr) (n c : Nat) (l : List Int) (v : Int) (w : World) (hr : Reads w w.heap.size 1 A n (kv .u8 l)) (hv : -9223372036854775808 ≤ v ∧ v ≤ 9223372036854775807) (hn : n ≤ 1000000) :
    Calls Try.prog 38 #[.slice A n c, .int .i64 v] w fun e w' => ∃ A' c', e = .returned (.slice A' (n + (vint v).length) c') ∧ Row8 w' w.heap.size (.slice A' (n + (vint v).length) c') (n + (vint v).length) (l ++ vint v) ∧ Below w.heap.size w w' := by
  obtain ⟨i0, hi0, hz0, hz1, hz2⟩ := u8_parts
  obtain ⟨Z, hZ⟩ : ∃ Z, Z = zig v := ⟨_, rfl⟩
  have hlen : (vb Z).length ≤ 10 := by rw [hZ]; exact vint_len hv
  have HLb := Lib.hid hlen
  have Z64 : Hid (Z < 18446744073709551616) := Lib.hid (by rw [hZ]; exact zig_lt hv)
  have HZ := Lib.hid hZ
  have HVV := Lib.hid hv
  have hV1 : vint v = vb Z := by rw [hZ]; rfl
  rw [hV1]
  clear hlen hZ hv hV1
  have hmk : ∀ W, (Instr.makeSlice 58 (.int .i64 (n : Int)) (.int .i64 ((n : Int) + 10))).run Try.prog W = .ok (.slice (some ⟨W.heap.size, 0, none⟩) n (n + 10)) (W.alloc (.cells (madeCells #[.int .u8 0] (n + 10)) 5)) := made8 n (n + 10) (by omega)
  have s1 : IntKind.i64.wrap ((n : Int) + 10) = (n : Int) + 10 := IntWalk.i64_in _ (by omega)
  have hl : l.length = n := by have := hr.klen; omega
  obtain ⟨V, hV⟩ : ∃ V, V = w.alloc (.cells (madeCells #[.int .u8 0] (n + 10)) 5) := ⟨_, rfl⟩
  have g1 : Hid (V.heap[w.heap.size]? = some (.cells (madeCells #[.int .u8 0] (n + 10)).toList.toArray 5 (0, 0))) := Lib.hid (by rw [hV]; simpa using heap_alloc_new w _)
  have g2 : Hid ((kv .u8 l).length = Nat.min n n) := Lib.hid (by simp [kv, hl])
  have g3 : Hid (0 < (kv .u8 l).length → (some ⟨w.heap.size, 0, none⟩ : Option Addr) = some ⟨w.heap.size, 0, none⟩ ∧ ∃ ad, A = some ad ∧ ∀ j u, (kv .u8 l)[j]? = some u → V.cell? (ad.add j) = some u) := Lib.hid (fun h0 => by
    have hr2 : Reads V w.heap.size 1 A n (kv .u8 l) := hr.below (by rw [hV]; exact (Below.refl _ _).alloc (Nat.le_refl _) _)
    obtain ⟨ad, hA, _, hc⟩ := hr2.2 (by simp [kv, hl] at h0; omega)
    exact ⟨rfl, ad, hA, hc⟩)
  have g4 : Hid (0 + (kv .u8 l).length ≤ (madeCells #[.int .u8 0] (n + 10)).toList.length) := Lib.hid (by simp [kv, hl, madeCells])
  have g5 : Hid (Below w.heap.size w V) := Lib.hid (by rw [hV]; exact (Below.refl _ _).alloc (Nat.le_refl _) _)
  have HL := Lib.hid hl
  have HN := Lib.hid hn
  have HV := Lib.hid hV
  clear hV hl hn
  go_enter Try.func38, Try.ntmps38
  go_upto_region 2 with fail
  rw [← HV.out]
  clear HV hmk s1 hr
  go_upto_region 3 with (first
    | (refine wpList_copy_splice rfl (.tmp 13) (.tmp 14) 58 58 rfl 5 Try.underlying58 (by kernel_rfl) (some ⟨w.heap.size, 0, none⟩) A n (n + 10) n c rfl rfl w.heap.size 0 (madeCells #[.int .u8 0] (n + 10)).toList 5 g1.out (kv .u8 l) g2.out g3.out g4.out kv_one w.heap.size w g5.out (Nat.le_refl _) ?_
       intro w1 hg hb
       have q1 := Lib.hid (row_copied (base := w.heap.size) hg.out (m := n + 10) (by simp [madeCells]) HL.out (by omega) (by have := HN.out; simp only [maxLen]; omega) (Nat.le_refl _))
       have q2 := Lib.hid hb
       clear hg hb
       try simp only [Act.put, List.setIfInBounds_toArray, List.set_cons_zero, List.set_cons_succ])
    | fail)
  go_cut [6] (fun z wx => z = .int .u64 (Z : Int) ∧ Hid (Row8 wx w.heap.size (.slice (some ⟨w.heap.size, 0, none⟩) n (n + 10)) n l) ∧ Hid (Below w.heap.size w wx))
  case first =>
    go_wp2_with fail
    go_meet
    exact ⟨by rw [zig_code HVV.out, HZ.out], q1, q2⟩
  obtain ⟨rfl, HO, HW⟩ := hcut
  clear g1 g2 g3 g4 g5 q1 q2
  go_wp2_with fail
  go_loopg [5, 6] Z (fun k b z wr => ∃ (zz : Nat) (A1 : Option Addr) (n1 c1 : Nat) (dn : List Int), zz = k ∧ z = .int .u64 (zz : Int) ∧ b = .slice A1 n1 c1 ∧ Hid (n1 = n + dn.length ∧ vb Z = dn ++ vb zz ∧ zz < 18446744073709551616) ∧ Hid (Row8 wr w.heap.size (.slice A1 n1 c1) n1 (l ++ dn)) ∧ Hid (Below w.heap.size w wr))
  case atStart => exact ⟨Z, some ⟨w.heap.size, 0, none⟩, n, n + 10, [], rfl, rfl, rfl, Lib.hid ⟨rfl, rfl, Z64.out⟩, Lib.hid (by rw [List.append_nil]; exact HO.out), HW⟩
  case round =>
    obtain ⟨zz, A1, n1, c1, dn, rfl, rfl, rfl, hF, hR, hW⟩ := hrel
    have hd : dn.length + (vb zz).length ≤ 10 := by have h1 := HLb.out; rw [hF.out.2.1, List.length_append] at h1; exact h1
    have hp := vb_pos zz
    have hb : w.heap.size ≤ wr.heap.size := hW.out.size
    have hn1 : n1 ≤ 1000010 := by have := HN.out; have := hF.out.1; omega
    have HB1 := Lib.hid hb
    have HN1 := Lib.hid hn1
    have HP := Lib.hid hp
    have HD := Lib.hid hd
    clear hp hd hb hn1
    by_cases hlt : 128 ≤ zz
    · obtain ⟨d, hd⟩ : ∃ d, d = zz % 128 := ⟨_, rfl⟩
      obtain ⟨q, hq⟩ : ∃ q, q = zz / 128 := ⟨_, rfl⟩
      have hd1 : d < 128 := by omega
      have t0 : decide (128 ≤ (zz : Int)) = true := by simp; omega
      obtain ⟨e8, he8⟩ : ∃ e8 : Nat, e8 = zz % 256 := ⟨_, rfl⟩
      have t1 : IntKind.u8.wrap (zz : Int) = (e8 : Int) := by rw [IntKind.wrap_u8]; omega
      have t2 : bits BinOp.or IntKind.u8 (e8 : Int) 128 = 128 + (d : Int) := by rw [Lib.u8_or128_any _ (by omega) (by omega)]; omega
      have t4 : (zz : Int) / 128 = (q : Int) := by omega
      have t5 : IntKind.u64.wrap (q : Int) = (q : Int) := by have := hF.out.2.2; rw [IntKind.wrap_u64]; omega
      have hvb : vb zz = (128 + (d : Int)) :: vb q := by rw [vb_big hlt, hd, hq]
      have HVB := Lib.hid hvb
      have HQ : Hid (q < zz ∧ q < 18446744073709551616) := Lib.hid (by have := hF.out.2.2; omega)
      have r1 : Hid ((wr.alloc (.cells #[.int .u8 (128 + (d : Int))] 5)).ownsRow w.heap.size 5 1 (.slice A1 n1 c1) n1 (kv .u8 (l ++ dn))) := Lib.hid (((Only.refl (fun _ => False) wr).alloc _).own hR.out (fun _ _ h => h))
      have r2 : Hid (Reads (wr.alloc (.cells #[.int .u8 (128 + (d : Int))] 5)) (wr.alloc (.cells #[.int .u8 (128 + (d : Int))] 5)).heap.size 1 (some ⟨wr.heap.size, 0, none⟩) 1 (kv .u8 [128 + (d : Int)])) := Lib.hid (kreads_of_blk (l := [128 + (d : Int)]) (Blk.new wr 5 _) rfl)
      clear hd hq he8 hd1 hvb hlt
      go_wp2_with (first
        | (at_builtin
           refine wpList_append_any _ rfl (.tmp 25) (.tmp 29) _ rfl w.heap.size 5 i0 _ 1 1 Try.underlying58 hi0 hz0 hz1 hz2 rfl (by omega) (.slice A1 n1 c1) _ (kv .u8 (l ++ dn)) rfl r1.out _ _ 1 1 (kv .u8 [128 + (d : Int)]) rfl r2.out kv_one (by have := HN1.out; simp only [maxLen]; omega) (by have := HN1.out; omega) (by have := HB1.out; simp; omega) ?_
           intro v1 w1 hown1 hg1 hat1
           rw [kv_append] at hown1
           obtain ⟨A2, c2, rfl, hr2⟩ := own_slice hown1
           have q2 : Hid (Below w.heap.size w w1) := Lib.hid ((hW.out).trans ((((Only.refl (fun i => w.heap.size ≤ i) wr).alloc _).trans (Only.of_grown (S := fun i => w.heap.size ≤ i) hg1 (fun i hi => (r1.out.lt i hi.symm).1)) (fun _ _ h => h)).below HB1.out (fun i hi h => by omega)))
           have q3 := Lib.hid hown1
           clear hown1 hg1 hat1 hr2)
        | fail)
      go_roundg q
      case measure => exact HQ.out.1
      case rel => exact ⟨q, A2, n1 + 1, c2, dn ++ [128 + (d : Int)], rfl, by go_num, rfl, Lib.hid ⟨by have := hF.out.1; simp; omega, by rw [hF.out.2.1, HVB.out]; simp, HQ.out.2⟩, Lib.hid (by rw [← List.append_assoc]; exact q3.out), q2⟩
    · have t0 : decide (128 ≤ (zz : Int)) = false := by simp; omega
      have t3 : IntKind.u8.wrap (zz : Int) = (zz : Int) := by rw [IntKind.wrap_u8]; omega
      have HVB : Hid (vb zz = [(zz : Int)]) := Lib.hid (vb_small (by omega))
      have r1 : Hid ((wr.alloc (.cells #[.int .u8 (zz : Int)] 5)).ownsRow w.heap.size 5 1 (.slice A1 n1 c1) n1 (kv .u8 (l ++ dn))) := Lib.hid (((Only.refl (fun _ => False) wr).alloc _).own hR.out (fun _ _ h => h))
      have r2 : Hid (Reads (wr.alloc (.cells #[.int .u8 (zz : Int)] 5)) (wr.alloc (.cells #[.int .u8 (zz : Int)] 5)).heap.size 1 (some ⟨wr.heap.size, 0, none⟩) 1 (kv .u8 [(zz : Int)])) := Lib.hid (kreads_of_blk (l := [(zz : Int)]) (Blk.new wr 5 _) rfl)
      clear hlt
      go_wp2_with (first
        | (at_builtin
           refine wpList_append_any _ rfl (.tmp 33) (.tmp 36) _ rfl w.heap.size 5 i0 _ 1 1 Try.underlying58 hi0 hz0 hz1 hz2 rfl (by omega) (.slice A1 n1 c1) _ (kv .u8 (l ++ dn)) rfl r1.out _ _ 1 1 (kv .u8 [(zz : Int)]) rfl r2.out kv_one (by have := HN1.out; simp only [maxLen]; omega) (by have := HN1.out; omega) (by have := HB1.out; simp; omega) ?_
           intro v1 w1 hown1 hg1 hat1
           rw [kv_append] at hown1
           obtain ⟨A2, c2, rfl, hr2⟩ := own_slice hown1
           have q2 : Hid (Below w.heap.size w w1) := Lib.hid ((hW.out).trans ((((Only.refl (fun i => w.heap.size ≤ i) wr).alloc _).trans (Only.of_grown (S := fun i => w.heap.size ≤ i) hg1 (fun i hi => (r1.out.lt i hi.symm).1)) (fun _ _ h => h)).below HB1.out (fun i hi h => by omega)))
           have q3 := Lib.hid hown1
           clear hown1 hg1 hat1 hr2)
        | fail)
      go_ret
      have e1 : n + (vb Z).length = n1 + 1 := by have := hF.out.1; rw [hF.out.2.1, HVB.out]; simp; omega
      have e2 : l ++ vb Z = l ++ dn ++ [(zz : Int)] := by rw [hF.out.2.1, HVB.out, List.append_assoc]
      rw [e1, e2]
      exact ⟨A2, c2, rfl, q3.out, q2.out⟩
end Go.Proofs.Ytencgokpbfkeiaa
