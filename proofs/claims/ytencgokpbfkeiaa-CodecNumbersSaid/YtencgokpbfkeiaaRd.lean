/- The number with whose bytes a list begins (layer 29). -/
import Derived.Test.YtencgokpbfkeiaaCi
import Derived.LoopN
set_option linter.unusedVariables false
set_option linter.unusedSimpArgs false
namespace Go.Proofs.Ytencgokpbfkeiaa
open Go.ChangeShapes Go.WideShapes Go.ChangeAt Go.RowKit
/-- what Read tells: the number and how many bytes it takes -/
def told : Option (Nat × Nat) → Int × Int
  | none => (0, 0)
  | some (Z, s) => (zag Z, (s : Int))
theorem xor0 (a : Nat) (h : a < 9223372036854775808) : bits BinOp.xor IntKind.i64 (a : Int) 0 = (a : Int) := by
  show IntKind.i64.wrap ((BitVec.ofInt 64 (a : Int) ^^^ BitVec.ofInt 64 0).toNat : Int) = _
  have h1 : (BitVec.ofInt 64 (0 : Int)).toNat = 0 := by decide
  have h2 : (BitVec.ofInt 64 (a : Int)).toNat = a := by rw [BitVec.ofInt_natCast, BitVec.toNat_ofNat]; exact Nat.mod_eq_of_lt (by omega)
  rw [BitVec.toNat_xor, h1, h2, Nat.xor_zero, IntKind.wrap_i64]
  omega
theorem xor1 (a : Nat) (h : a < 9223372036854775808) : bits BinOp.xor IntKind.i64 (a : Int) (-1) = -(a : Int) - 1 := by
  show IntKind.i64.wrap ((BitVec.ofInt 64 (a : Int) ^^^ BitVec.ofInt 64 (-1)).toNat : Int) = _
  have h1 : (BitVec.ofInt 64 (-1)).toNat = 2 ^ 64 - 1 := by decide
  have h2 : (BitVec.ofInt 64 (a : Int)).toNat = a := by rw [BitVec.ofInt_natCast, BitVec.toNat_ofNat]; exact Nat.mod_eq_of_lt (by omega)
  rw [BitVec.toNat_xor, h1, h2, Nat.xor_comm, Lib.xor_ones64 a (by omega), IntKind.wrap_i64]
  omega
theorem zag_code (Z : Nat) (h : Z < 18446744073709551616) : bits BinOp.xor IntKind.i64 (IntKind.i64.wrap ((Z : Int) / 2)) (IntKind.i64.wrap (-IntKind.i64.wrap (bits BinOp.and IntKind.u64 (Z : Int) 1))) = zag Z := by
  rw [Lib.u64_and1 _ (by omega) (by omega)]
  have e1 : IntKind.i64.wrap ((Z : Int) / 2) = ((Z / 2 : Nat) : Int) := by rw [IntKind.wrap_i64]; omega
  rw [e1]
  unfold zag
  by_cases hz : Z % 2 = 0
  · have e2 : IntKind.i64.wrap (-IntKind.i64.wrap ((Z : Int) % 2)) = 0 := by
      have : (Z : Int) % 2 = 0 := by omega
      rw [this]; decide
    rw [e2, if_pos hz, xor0 _ (by omega)]
  · have e2 : IntKind.i64.wrap (-IntKind.i64.wrap ((Z : Int) % 2)) = -1 := by
      have : (Z : Int) % 2 = 1 := by omega
      rw [this]; decide
    rw [e2, if_neg hz, xor1 _ (by omega)]
theorem zag_code2 (Z : Nat) (h : Z < 18446744073709551616) : bits BinOp.xor IntKind.i64 (wrap64 ((Z : Int) / 2)) (wrap64 (-wrap64 (bits BinOp.and IntKind.u64 (Z : Int) 1))) = zag Z := by
  have e : ∀ n, wrap64 n = IntKind.i64.wrap n := fun n => by rw [IntKind.wrap_i64]; unfold wrap64; omega
  rw [e, e, e]
  exact zag_code Z h
theorem drop_get (l : List Int) (i : Nat) (h : i < l.length) : l.drop i = l.getD i 0 :: l.drop (i + 1) := by
  rw [List.drop_eq_getElem_cons h, List.getD_eq_getElem?_getD, List.getElem?_eq_getElem h, Option.getD_some]
set_option maxRecDepth 100000 in
set_option maxHeartbeats 16000000 in
theorem read_any (A : Option Addr) (n c B : Nat) (l : List Int) (w : World) (hr : Reads w B 1 A n (kv .u8 l)) (ho : okK .u8 l) (hn : n ≤ maxLen) :
    Calls Try.prog 40 #[.slice A n c] w fun e w' => e = .returned (.tuple #[.int .i64 (told (rd 0 0 l)).1, .int .i64 (told (rd 0 0 l)).2]) ∧ w = w' := by
  have hln : l.length = n := by have := hr.klen; omega
  have HR := Lib.hid hr
  have HOK := Lib.hid ho
  have HLN := Lib.hid hln
  have HX0 : Hid (rd 0 0 l = rd 0 0 (l.drop 0)) := Lib.hid (by simp)
  clear hr ho hn hln
  go_enter Try.func40, Try.ntmps40
  go_wp2_with fail
  refine wp_loop_rounds 11 ?_
  rw [rounds_succ]
  by_cases h0 : n ≤ 0
  · have t0 : decide ((0 : Int) < (n : Int)) = false := by simp; omega
    have HE : Hid (rd 0 0 l = none) := Lib.hid (by rw [HX0.out, List.drop_of_length_le (by have := HLN.out; omega)]; rfl)
    obtain rfl : n = 0 := by omega
    go_wp2_with fail
    go_ret2
    exact ⟨by rw [HE.out]; rfl, rfl⟩
  have t0 : decide ((0 : Int) < (n : Int)) = true := by simp; omega
  have tt0 : (0 : Int) < (n : Int) := by omega
  have tt0b : 0 < n := by omega
  obtain ⟨b, off, rfl, hbB, hcells⟩ := HR.out.row (by omega) (by omega)
  have HC := Lib.hid hcells
  clear hcells
  have p0 : w.cell? ⟨b, off, none⟩ = some (.int .u8 (l.getD 0 0)) := HC.out 0 _ (kv_get (by have := HLN.out; omega))
  have w0 : (Lit.int .u8 (l.getD 0 0)).wf = true := okK_get HOK.out 0 (by have := HLN.out; omega)
  have hd0 : l.drop 0 = l.getD 0 0 :: l.drop 1 := drop_get l 0 (by have := HLN.out; omega)
  obtain ⟨x0, hx0⟩ : ∃ x : Nat, l.getD 0 0 = (x : Int) ∧ x < 256 := by
    have := bounds_u8 w0
    exact ⟨(l.getD 0 0).toNat, by omega, by omega⟩
  rw [hx0.1] at p0 hd0
  obtain ⟨d0, hdd0⟩ : ∃ d : Nat, d = x0 % 128 := ⟨_, rfl⟩
  have hb0 := hx0.2
  have HD0 := Lib.hid hd0
  clear w0 hd0 hx0 h0
  have y0 : bits BinOp.and IntKind.u8 (x0 : Int) 127 = (d0 : Int) := by rw [u8_and127 _ (by omega) (by omega)]; omega
  have z0 : IntKind.u64.wrap (d0 : Int) = (d0 : Int) := by rw [IntKind.wrap_u64]; omega
  obtain ⟨a1, ha1⟩ : ∃ a : Nat, a = 0 + d0 * 1 := ⟨_, rfl⟩
  have v0 : IntKind.u64.wrap ((d0 : Int)) = (d0 : Int) := by rw [IntKind.wrap_u64]; omega
  have o0 : bits BinOp.or IntKind.u64 0 ((d0 : Int)) = (a1 : Int) := by rw [u64_orv0 _ _ (by omega) (by omega) (by omega) (by omega) (by omega)]; omega
  have HB1 : Hid (a1 < 128) := Lib.hid (by omega)
  have HS0 := Lib.hid (And.intro ha1 (And.intro hdd0 hb0))
  clear ha1 hdd0 hb0 
  by_cases k0 : 128 ≤ x0
  · have g0 : decide (128 ≤ (x0 : Int)) = true := by simp; omega
    have HX1 : Hid (rd 0 0 l = rd 1 a1 (l.drop 1)) := Lib.hid (by
      have h := HS0.out
      rw [HX0.out, HD0.out]
      simp only [rd]
      rw [if_neg (by omega), if_pos (by omega)]
      have e : 0 + (x0 : Int).toNat % 128 * 2 ^ (7 * 0) = a1 := by rw [show (x0 : Int).toNat = x0 by omega, show 2 ^ (7 * 0) = 1 from rfl]; omega
      rw [e])
    clear k0
    go_wp2_with fail
    clear p0 y0 z0 v0 o0 g0 t0 tt0
    rw [rounds_succ]
    by_cases h1 : n ≤ 1
    · have t1 : decide ((1 : Int) < (n : Int)) = false := by simp; omega
      have HE : Hid (rd 0 0 l = none) := Lib.hid (by rw [HX1.out, List.drop_of_length_le (by have := HLN.out; omega)]; rfl)
      clear h1
      go_wp2_with fail
      go_ret2
      exact ⟨by rw [HE.out]; rfl, rfl⟩
    have t1 : decide ((1 : Int) < (n : Int)) = true := by simp; omega
    have tt1 : (1 : Int) < (n : Int) := by omega
    have p1 : w.cell? ⟨b, off + 1, none⟩ = some (.int .u8 (l.getD 1 0)) := HC.out 1 _ (kv_get (by have := HLN.out; omega))
    have w1 : (Lit.int .u8 (l.getD 1 0)).wf = true := okK_get HOK.out 1 (by have := HLN.out; omega)
    have hd1 : l.drop 1 = l.getD 1 0 :: l.drop 2 := drop_get l 1 (by have := HLN.out; omega)
    obtain ⟨x1, hx1⟩ : ∃ x : Nat, l.getD 1 0 = (x : Int) ∧ x < 256 := by
      have := bounds_u8 w1
      exact ⟨(l.getD 1 0).toNat, by omega, by omega⟩
    rw [hx1.1] at p1 hd1
    obtain ⟨d1, hdd1⟩ : ∃ d : Nat, d = x1 % 128 := ⟨_, rfl⟩
    have hb1 := hx1.2
    have HD1 := Lib.hid hd1
    clear w1 hd1 hx1 h1
    have y1 : bits BinOp.and IntKind.u8 (x1 : Int) 127 = (d1 : Int) := by rw [u8_and127 _ (by omega) (by omega)]; omega
    have z1 : IntKind.u64.wrap (d1 : Int) = (d1 : Int) := by rw [IntKind.wrap_u64]; omega
    obtain ⟨a2, ha2⟩ : ∃ a : Nat, a = a1 + d1 * 128 := ⟨_, rfl⟩
    have HB1x := HB1.out
    have v1 : IntKind.u64.wrap ((d1 : Int) * 128) = (d1 : Int) * 128 := by rw [IntKind.wrap_u64]; omega
    have o1 : bits BinOp.or IntKind.u64 (a1 : Int) ((d1 : Int) * 128) = (a2 : Int) := by rw [u64_orv7 _ _ (by omega) (by omega) (by omega) (by omega) (by omega)]; omega
    have HB2 : Hid (a2 < 16384) := Lib.hid (by omega)
    have HS1 := Lib.hid (And.intro ha2 (And.intro hdd1 hb1))
    clear ha2 hdd1 hb1 HB1x
    by_cases k1 : 128 ≤ x1
    · have g1 : decide (128 ≤ (x1 : Int)) = true := by simp; omega
      have HX2 : Hid (rd 0 0 l = rd 2 a2 (l.drop 2)) := Lib.hid (by
        have h := HS1.out
        rw [HX1.out, HD1.out]
        simp only [rd]
        rw [if_neg (by omega), if_pos (by omega)]
        have e : a1 + (x1 : Int).toNat % 128 * 2 ^ (7 * 1) = a2 := by rw [show (x1 : Int).toNat = x1 by omega, show 2 ^ (7 * 1) = 128 from rfl]; omega
        rw [e])
      clear k1
      go_wp2_with fail
      clear p1 y1 z1 v1 o1 g1 t1 tt1
      rw [rounds_succ]
      by_cases h2 : n ≤ 2
      · have t2 : decide ((2 : Int) < (n : Int)) = false := by simp; omega
        have HE : Hid (rd 0 0 l = none) := Lib.hid (by rw [HX2.out, List.drop_of_length_le (by have := HLN.out; omega)]; rfl)
        clear h2
        go_wp2_with fail
        go_ret2
        exact ⟨by rw [HE.out]; rfl, rfl⟩
      have t2 : decide ((2 : Int) < (n : Int)) = true := by simp; omega
      have tt2 : (2 : Int) < (n : Int) := by omega
      have p2 : w.cell? ⟨b, off + 2, none⟩ = some (.int .u8 (l.getD 2 0)) := HC.out 2 _ (kv_get (by have := HLN.out; omega))
      have w2 : (Lit.int .u8 (l.getD 2 0)).wf = true := okK_get HOK.out 2 (by have := HLN.out; omega)
      have hd2 : l.drop 2 = l.getD 2 0 :: l.drop 3 := drop_get l 2 (by have := HLN.out; omega)
      obtain ⟨x2, hx2⟩ : ∃ x : Nat, l.getD 2 0 = (x : Int) ∧ x < 256 := by
        have := bounds_u8 w2
        exact ⟨(l.getD 2 0).toNat, by omega, by omega⟩
      rw [hx2.1] at p2 hd2
      obtain ⟨d2, hdd2⟩ : ∃ d : Nat, d = x2 % 128 := ⟨_, rfl⟩
      have hb2 := hx2.2
      have HD2 := Lib.hid hd2
      clear w2 hd2 hx2 h2
      have y2 : bits BinOp.and IntKind.u8 (x2 : Int) 127 = (d2 : Int) := by rw [u8_and127 _ (by omega) (by omega)]; omega
      have z2 : IntKind.u64.wrap (d2 : Int) = (d2 : Int) := by rw [IntKind.wrap_u64]; omega
      obtain ⟨a3, ha3⟩ : ∃ a : Nat, a = a2 + d2 * 16384 := ⟨_, rfl⟩
      have HB2x := HB2.out
      have v2 : IntKind.u64.wrap ((d2 : Int) * 16384) = (d2 : Int) * 16384 := by rw [IntKind.wrap_u64]; omega
      have o2 : bits BinOp.or IntKind.u64 (a2 : Int) ((d2 : Int) * 16384) = (a3 : Int) := by rw [u64_orv14 _ _ (by omega) (by omega) (by omega) (by omega) (by omega)]; omega
      have HB3 : Hid (a3 < 2097152) := Lib.hid (by omega)
      have HS2 := Lib.hid (And.intro ha3 (And.intro hdd2 hb2))
      clear ha3 hdd2 hb2 HB2x
      by_cases k2 : 128 ≤ x2
      · have g2 : decide (128 ≤ (x2 : Int)) = true := by simp; omega
        have HX3 : Hid (rd 0 0 l = rd 3 a3 (l.drop 3)) := Lib.hid (by
          have h := HS2.out
          rw [HX2.out, HD2.out]
          simp only [rd]
          rw [if_neg (by omega), if_pos (by omega)]
          have e : a2 + (x2 : Int).toNat % 128 * 2 ^ (7 * 2) = a3 := by rw [show (x2 : Int).toNat = x2 by omega, show 2 ^ (7 * 2) = 16384 from rfl]; omega
          rw [e])
        clear k2
        go_wp2_with fail
        clear p2 y2 z2 v2 o2 g2 t2 tt2
        rw [rounds_succ]
        by_cases h3 : n ≤ 3
        · have t3 : decide ((3 : Int) < (n : Int)) = false := by simp; omega
          have HE : Hid (rd 0 0 l = none) := Lib.hid (by rw [HX3.out, List.drop_of_length_le (by have := HLN.out; omega)]; rfl)
          clear h3
          go_wp2_with fail
          go_ret2
          exact ⟨by rw [HE.out]; rfl, rfl⟩
        have t3 : decide ((3 : Int) < (n : Int)) = true := by simp; omega
        have tt3 : (3 : Int) < (n : Int) := by omega
        have p3 : w.cell? ⟨b, off + 3, none⟩ = some (.int .u8 (l.getD 3 0)) := HC.out 3 _ (kv_get (by have := HLN.out; omega))
        have w3 : (Lit.int .u8 (l.getD 3 0)).wf = true := okK_get HOK.out 3 (by have := HLN.out; omega)
        have hd3 : l.drop 3 = l.getD 3 0 :: l.drop 4 := drop_get l 3 (by have := HLN.out; omega)
        obtain ⟨x3, hx3⟩ : ∃ x : Nat, l.getD 3 0 = (x : Int) ∧ x < 256 := by
          have := bounds_u8 w3
          exact ⟨(l.getD 3 0).toNat, by omega, by omega⟩
        rw [hx3.1] at p3 hd3
        obtain ⟨d3, hdd3⟩ : ∃ d : Nat, d = x3 % 128 := ⟨_, rfl⟩
        have hb3 := hx3.2
        have HD3 := Lib.hid hd3
        clear w3 hd3 hx3 h3
        have y3 : bits BinOp.and IntKind.u8 (x3 : Int) 127 = (d3 : Int) := by rw [u8_and127 _ (by omega) (by omega)]; omega
        have z3 : IntKind.u64.wrap (d3 : Int) = (d3 : Int) := by rw [IntKind.wrap_u64]; omega
        obtain ⟨a4, ha4⟩ : ∃ a : Nat, a = a3 + d3 * 2097152 := ⟨_, rfl⟩
        have HB3x := HB3.out
        have v3 : IntKind.u64.wrap ((d3 : Int) * 2097152) = (d3 : Int) * 2097152 := by rw [IntKind.wrap_u64]; omega
        have o3 : bits BinOp.or IntKind.u64 (a3 : Int) ((d3 : Int) * 2097152) = (a4 : Int) := by rw [u64_orv21 _ _ (by omega) (by omega) (by omega) (by omega) (by omega)]; omega
        have HB4 : Hid (a4 < 268435456) := Lib.hid (by omega)
        have HS3 := Lib.hid (And.intro ha4 (And.intro hdd3 hb3))
        clear ha4 hdd3 hb3 HB3x
        by_cases k3 : 128 ≤ x3
        · have g3 : decide (128 ≤ (x3 : Int)) = true := by simp; omega
          have HX4 : Hid (rd 0 0 l = rd 4 a4 (l.drop 4)) := Lib.hid (by
            have h := HS3.out
            rw [HX3.out, HD3.out]
            simp only [rd]
            rw [if_neg (by omega), if_pos (by omega)]
            have e : a3 + (x3 : Int).toNat % 128 * 2 ^ (7 * 3) = a4 := by rw [show (x3 : Int).toNat = x3 by omega, show 2 ^ (7 * 3) = 2097152 from rfl]; omega
            rw [e])
          clear k3
          go_wp2_with fail
          clear p3 y3 z3 v3 o3 g3 t3 tt3
          rw [rounds_succ]
          by_cases h4 : n ≤ 4
          · have t4 : decide ((4 : Int) < (n : Int)) = false := by simp; omega
            have HE : Hid (rd 0 0 l = none) := Lib.hid (by rw [HX4.out, List.drop_of_length_le (by have := HLN.out; omega)]; rfl)
            clear h4
            go_wp2_with fail
            go_ret2
            exact ⟨by rw [HE.out]; rfl, rfl⟩
          have t4 : decide ((4 : Int) < (n : Int)) = true := by simp; omega
          have tt4 : (4 : Int) < (n : Int) := by omega
          have p4 : w.cell? ⟨b, off + 4, none⟩ = some (.int .u8 (l.getD 4 0)) := HC.out 4 _ (kv_get (by have := HLN.out; omega))
          have w4 : (Lit.int .u8 (l.getD 4 0)).wf = true := okK_get HOK.out 4 (by have := HLN.out; omega)
          have hd4 : l.drop 4 = l.getD 4 0 :: l.drop 5 := drop_get l 4 (by have := HLN.out; omega)
          obtain ⟨x4, hx4⟩ : ∃ x : Nat, l.getD 4 0 = (x : Int) ∧ x < 256 := by
            have := bounds_u8 w4
            exact ⟨(l.getD 4 0).toNat, by omega, by omega⟩
          rw [hx4.1] at p4 hd4
          obtain ⟨d4, hdd4⟩ : ∃ d : Nat, d = x4 % 128 := ⟨_, rfl⟩
          have hb4 := hx4.2
          have HD4 := Lib.hid hd4
          clear w4 hd4 hx4 h4
          have y4 : bits BinOp.and IntKind.u8 (x4 : Int) 127 = (d4 : Int) := by rw [u8_and127 _ (by omega) (by omega)]; omega
          have z4 : IntKind.u64.wrap (d4 : Int) = (d4 : Int) := by rw [IntKind.wrap_u64]; omega
          obtain ⟨a5, ha5⟩ : ∃ a : Nat, a = a4 + d4 * 268435456 := ⟨_, rfl⟩
          have HB4x := HB4.out
          have v4 : IntKind.u64.wrap ((d4 : Int) * 268435456) = (d4 : Int) * 268435456 := by rw [IntKind.wrap_u64]; omega
          have o4 : bits BinOp.or IntKind.u64 (a4 : Int) ((d4 : Int) * 268435456) = (a5 : Int) := by rw [u64_orv28 _ _ (by omega) (by omega) (by omega) (by omega) (by omega)]; omega
          have HB5 : Hid (a5 < 34359738368) := Lib.hid (by omega)
          have HS4 := Lib.hid (And.intro ha5 (And.intro hdd4 hb4))
          clear ha5 hdd4 hb4 HB4x
          by_cases k4 : 128 ≤ x4
          · have g4 : decide (128 ≤ (x4 : Int)) = true := by simp; omega
            have HX5 : Hid (rd 0 0 l = rd 5 a5 (l.drop 5)) := Lib.hid (by
              have h := HS4.out
              rw [HX4.out, HD4.out]
              simp only [rd]
              rw [if_neg (by omega), if_pos (by omega)]
              have e : a4 + (x4 : Int).toNat % 128 * 2 ^ (7 * 4) = a5 := by rw [show (x4 : Int).toNat = x4 by omega, show 2 ^ (7 * 4) = 268435456 from rfl]; omega
              rw [e])
            clear k4
            go_wp2_with fail
            clear p4 y4 z4 v4 o4 g4 t4 tt4
            rw [rounds_succ]
            by_cases h5 : n ≤ 5
            · have t5 : decide ((5 : Int) < (n : Int)) = false := by simp; omega
              have HE : Hid (rd 0 0 l = none) := Lib.hid (by rw [HX5.out, List.drop_of_length_le (by have := HLN.out; omega)]; rfl)
              clear h5
              go_wp2_with fail
              go_ret2
              exact ⟨by rw [HE.out]; rfl, rfl⟩
            have t5 : decide ((5 : Int) < (n : Int)) = true := by simp; omega
            have tt5 : (5 : Int) < (n : Int) := by omega
            have p5 : w.cell? ⟨b, off + 5, none⟩ = some (.int .u8 (l.getD 5 0)) := HC.out 5 _ (kv_get (by have := HLN.out; omega))
            have w5 : (Lit.int .u8 (l.getD 5 0)).wf = true := okK_get HOK.out 5 (by have := HLN.out; omega)
            have hd5 : l.drop 5 = l.getD 5 0 :: l.drop 6 := drop_get l 5 (by have := HLN.out; omega)
            obtain ⟨x5, hx5⟩ : ∃ x : Nat, l.getD 5 0 = (x : Int) ∧ x < 256 := by
              have := bounds_u8 w5
              exact ⟨(l.getD 5 0).toNat, by omega, by omega⟩
            rw [hx5.1] at p5 hd5
            obtain ⟨d5, hdd5⟩ : ∃ d : Nat, d = x5 % 128 := ⟨_, rfl⟩
            have hb5 := hx5.2
            have HD5 := Lib.hid hd5
            clear w5 hd5 hx5 h5
            have y5 : bits BinOp.and IntKind.u8 (x5 : Int) 127 = (d5 : Int) := by rw [u8_and127 _ (by omega) (by omega)]; omega
            have z5 : IntKind.u64.wrap (d5 : Int) = (d5 : Int) := by rw [IntKind.wrap_u64]; omega
            obtain ⟨a6, ha6⟩ : ∃ a : Nat, a = a5 + d5 * 34359738368 := ⟨_, rfl⟩
            have HB5x := HB5.out
            have v5 : IntKind.u64.wrap ((d5 : Int) * 34359738368) = (d5 : Int) * 34359738368 := by rw [IntKind.wrap_u64]; omega
            have o5 : bits BinOp.or IntKind.u64 (a5 : Int) ((d5 : Int) * 34359738368) = (a6 : Int) := by rw [u64_orv35 _ _ (by omega) (by omega) (by omega) (by omega) (by omega)]; omega
            have HB6 : Hid (a6 < 4398046511104) := Lib.hid (by omega)
            have HS5 := Lib.hid (And.intro ha6 (And.intro hdd5 hb5))
            clear ha6 hdd5 hb5 HB5x
            by_cases k5 : 128 ≤ x5
            · have g5 : decide (128 ≤ (x5 : Int)) = true := by simp; omega
              have HX6 : Hid (rd 0 0 l = rd 6 a6 (l.drop 6)) := Lib.hid (by
                have h := HS5.out
                rw [HX5.out, HD5.out]
                simp only [rd]
                rw [if_neg (by omega), if_pos (by omega)]
                have e : a5 + (x5 : Int).toNat % 128 * 2 ^ (7 * 5) = a6 := by rw [show (x5 : Int).toNat = x5 by omega, show 2 ^ (7 * 5) = 34359738368 from rfl]; omega
                rw [e])
              clear k5
              go_wp2_with fail
              clear p5 y5 z5 v5 o5 g5 t5 tt5
              rw [rounds_succ]
              by_cases h6 : n ≤ 6
              · have t6 : decide ((6 : Int) < (n : Int)) = false := by simp; omega
                have HE : Hid (rd 0 0 l = none) := Lib.hid (by rw [HX6.out, List.drop_of_length_le (by have := HLN.out; omega)]; rfl)
                clear h6
                go_wp2_with fail
                go_ret2
                exact ⟨by rw [HE.out]; rfl, rfl⟩
              have t6 : decide ((6 : Int) < (n : Int)) = true := by simp; omega
              have tt6 : (6 : Int) < (n : Int) := by omega
              have p6 : w.cell? ⟨b, off + 6, none⟩ = some (.int .u8 (l.getD 6 0)) := HC.out 6 _ (kv_get (by have := HLN.out; omega))
              have w6 : (Lit.int .u8 (l.getD 6 0)).wf = true := okK_get HOK.out 6 (by have := HLN.out; omega)
              have hd6 : l.drop 6 = l.getD 6 0 :: l.drop 7 := drop_get l 6 (by have := HLN.out; omega)
              obtain ⟨x6, hx6⟩ : ∃ x : Nat, l.getD 6 0 = (x : Int) ∧ x < 256 := by
                have := bounds_u8 w6
                exact ⟨(l.getD 6 0).toNat, by omega, by omega⟩
              rw [hx6.1] at p6 hd6
              obtain ⟨d6, hdd6⟩ : ∃ d : Nat, d = x6 % 128 := ⟨_, rfl⟩
              have hb6 := hx6.2
              have HD6 := Lib.hid hd6
              clear w6 hd6 hx6 h6
              have y6 : bits BinOp.and IntKind.u8 (x6 : Int) 127 = (d6 : Int) := by rw [u8_and127 _ (by omega) (by omega)]; omega
              have z6 : IntKind.u64.wrap (d6 : Int) = (d6 : Int) := by rw [IntKind.wrap_u64]; omega
              obtain ⟨a7, ha7⟩ : ∃ a : Nat, a = a6 + d6 * 4398046511104 := ⟨_, rfl⟩
              have HB6x := HB6.out
              have v6 : IntKind.u64.wrap ((d6 : Int) * 4398046511104) = (d6 : Int) * 4398046511104 := by rw [IntKind.wrap_u64]; omega
              have o6 : bits BinOp.or IntKind.u64 (a6 : Int) ((d6 : Int) * 4398046511104) = (a7 : Int) := by rw [u64_orv42 _ _ (by omega) (by omega) (by omega) (by omega) (by omega)]; omega
              have HB7 : Hid (a7 < 562949953421312) := Lib.hid (by omega)
              have HS6 := Lib.hid (And.intro ha7 (And.intro hdd6 hb6))
              clear ha7 hdd6 hb6 HB6x
              by_cases k6 : 128 ≤ x6
              · have g6 : decide (128 ≤ (x6 : Int)) = true := by simp; omega
                have HX7 : Hid (rd 0 0 l = rd 7 a7 (l.drop 7)) := Lib.hid (by
                  have h := HS6.out
                  rw [HX6.out, HD6.out]
                  simp only [rd]
                  rw [if_neg (by omega), if_pos (by omega)]
                  have e : a6 + (x6 : Int).toNat % 128 * 2 ^ (7 * 6) = a7 := by rw [show (x6 : Int).toNat = x6 by omega, show 2 ^ (7 * 6) = 4398046511104 from rfl]; omega
                  rw [e])
                clear k6
                go_wp2_with fail
                clear p6 y6 z6 v6 o6 g6 t6 tt6
                rw [rounds_succ]
                by_cases h7 : n ≤ 7
                · have t7 : decide ((7 : Int) < (n : Int)) = false := by simp; omega
                  have HE : Hid (rd 0 0 l = none) := Lib.hid (by rw [HX7.out, List.drop_of_length_le (by have := HLN.out; omega)]; rfl)
                  clear h7
                  go_wp2_with fail
                  go_ret2
                  exact ⟨by rw [HE.out]; rfl, rfl⟩
                have t7 : decide ((7 : Int) < (n : Int)) = true := by simp; omega
                have tt7 : (7 : Int) < (n : Int) := by omega
                have p7 : w.cell? ⟨b, off + 7, none⟩ = some (.int .u8 (l.getD 7 0)) := HC.out 7 _ (kv_get (by have := HLN.out; omega))
                have w7 : (Lit.int .u8 (l.getD 7 0)).wf = true := okK_get HOK.out 7 (by have := HLN.out; omega)
                have hd7 : l.drop 7 = l.getD 7 0 :: l.drop 8 := drop_get l 7 (by have := HLN.out; omega)
                obtain ⟨x7, hx7⟩ : ∃ x : Nat, l.getD 7 0 = (x : Int) ∧ x < 256 := by
                  have := bounds_u8 w7
                  exact ⟨(l.getD 7 0).toNat, by omega, by omega⟩
                rw [hx7.1] at p7 hd7
                obtain ⟨d7, hdd7⟩ : ∃ d : Nat, d = x7 % 128 := ⟨_, rfl⟩
                have hb7 := hx7.2
                have HD7 := Lib.hid hd7
                clear w7 hd7 hx7 h7
                have y7 : bits BinOp.and IntKind.u8 (x7 : Int) 127 = (d7 : Int) := by rw [u8_and127 _ (by omega) (by omega)]; omega
                have z7 : IntKind.u64.wrap (d7 : Int) = (d7 : Int) := by rw [IntKind.wrap_u64]; omega
                obtain ⟨a8, ha8⟩ : ∃ a : Nat, a = a7 + d7 * 562949953421312 := ⟨_, rfl⟩
                have HB7x := HB7.out
                have v7 : IntKind.u64.wrap ((d7 : Int) * 562949953421312) = (d7 : Int) * 562949953421312 := by rw [IntKind.wrap_u64]; omega
                have o7 : bits BinOp.or IntKind.u64 (a7 : Int) ((d7 : Int) * 562949953421312) = (a8 : Int) := by rw [u64_orv49 _ _ (by omega) (by omega) (by omega) (by omega) (by omega)]; omega
                have HB8 : Hid (a8 < 72057594037927936) := Lib.hid (by omega)
                have HS7 := Lib.hid (And.intro ha8 (And.intro hdd7 hb7))
                clear ha8 hdd7 hb7 HB7x
                by_cases k7 : 128 ≤ x7
                · have g7 : decide (128 ≤ (x7 : Int)) = true := by simp; omega
                  have HX8 : Hid (rd 0 0 l = rd 8 a8 (l.drop 8)) := Lib.hid (by
                    have h := HS7.out
                    rw [HX7.out, HD7.out]
                    simp only [rd]
                    rw [if_neg (by omega), if_pos (by omega)]
                    have e : a7 + (x7 : Int).toNat % 128 * 2 ^ (7 * 7) = a8 := by rw [show (x7 : Int).toNat = x7 by omega, show 2 ^ (7 * 7) = 562949953421312 from rfl]; omega
                    rw [e])
                  clear k7
                  go_wp2_with fail
                  clear p7 y7 z7 v7 o7 g7 t7 tt7
                  rw [rounds_succ]
                  by_cases h8 : n ≤ 8
                  · have t8 : decide ((8 : Int) < (n : Int)) = false := by simp; omega
                    have HE : Hid (rd 0 0 l = none) := Lib.hid (by rw [HX8.out, List.drop_of_length_le (by have := HLN.out; omega)]; rfl)
                    clear h8
                    go_wp2_with fail
                    go_ret2
                    exact ⟨by rw [HE.out]; rfl, rfl⟩
                  have t8 : decide ((8 : Int) < (n : Int)) = true := by simp; omega
                  have tt8 : (8 : Int) < (n : Int) := by omega
                  have p8 : w.cell? ⟨b, off + 8, none⟩ = some (.int .u8 (l.getD 8 0)) := HC.out 8 _ (kv_get (by have := HLN.out; omega))
                  have w8 : (Lit.int .u8 (l.getD 8 0)).wf = true := okK_get HOK.out 8 (by have := HLN.out; omega)
                  have hd8 : l.drop 8 = l.getD 8 0 :: l.drop 9 := drop_get l 8 (by have := HLN.out; omega)
                  obtain ⟨x8, hx8⟩ : ∃ x : Nat, l.getD 8 0 = (x : Int) ∧ x < 256 := by
                    have := bounds_u8 w8
                    exact ⟨(l.getD 8 0).toNat, by omega, by omega⟩
                  rw [hx8.1] at p8 hd8
                  obtain ⟨d8, hdd8⟩ : ∃ d : Nat, d = x8 % 128 := ⟨_, rfl⟩
                  have hb8 := hx8.2
                  have HD8 := Lib.hid hd8
                  clear w8 hd8 hx8 h8
                  have y8 : bits BinOp.and IntKind.u8 (x8 : Int) 127 = (d8 : Int) := by rw [u8_and127 _ (by omega) (by omega)]; omega
                  have z8 : IntKind.u64.wrap (d8 : Int) = (d8 : Int) := by rw [IntKind.wrap_u64]; omega
                  obtain ⟨a9, ha9⟩ : ∃ a : Nat, a = a8 + d8 * 72057594037927936 := ⟨_, rfl⟩
                  have HB8x := HB8.out
                  have v8 : IntKind.u64.wrap ((d8 : Int) * 72057594037927936) = (d8 : Int) * 72057594037927936 := by rw [IntKind.wrap_u64]; omega
                  have o8 : bits BinOp.or IntKind.u64 (a8 : Int) ((d8 : Int) * 72057594037927936) = (a9 : Int) := by rw [u64_orv56 _ _ (by omega) (by omega) (by omega) (by omega) (by omega)]; omega
                  have HB9 : Hid (a9 < 9223372036854775808) := Lib.hid (by omega)
                  have HS8 := Lib.hid (And.intro ha9 (And.intro hdd8 hb8))
                  clear ha9 hdd8 hb8 HB8x
                  by_cases k8 : 128 ≤ x8
                  · have g8 : decide (128 ≤ (x8 : Int)) = true := by simp; omega
                    have HX9 : Hid (rd 0 0 l = rd 9 a9 (l.drop 9)) := Lib.hid (by
                      have h := HS8.out
                      rw [HX8.out, HD8.out]
                      simp only [rd]
                      rw [if_neg (by omega), if_pos (by omega)]
                      have e : a8 + (x8 : Int).toNat % 128 * 2 ^ (7 * 8) = a9 := by rw [show (x8 : Int).toNat = x8 by omega, show 2 ^ (7 * 8) = 72057594037927936 from rfl]; omega
                      rw [e])
                    clear k8
                    go_wp2_with fail
                    clear p8 y8 z8 v8 o8 g8 t8 tt8
                    rw [rounds_succ]
                    by_cases h9 : n ≤ 9
                    · have t9 : decide ((9 : Int) < (n : Int)) = false := by simp; omega
                      have HE : Hid (rd 0 0 l = none) := Lib.hid (by rw [HX9.out, List.drop_of_length_le (by have := HLN.out; omega)]; rfl)
                      clear h9
                      go_wp2_with fail
                      go_ret2
                      exact ⟨by rw [HE.out]; rfl, rfl⟩
                    have t9 : decide ((9 : Int) < (n : Int)) = true := by simp; omega
                    have tt9 : (9 : Int) < (n : Int) := by omega
                    have p9 : w.cell? ⟨b, off + 9, none⟩ = some (.int .u8 (l.getD 9 0)) := HC.out 9 _ (kv_get (by have := HLN.out; omega))
                    have w9 : (Lit.int .u8 (l.getD 9 0)).wf = true := okK_get HOK.out 9 (by have := HLN.out; omega)
                    have hd9 : l.drop 9 = l.getD 9 0 :: l.drop 10 := drop_get l 9 (by have := HLN.out; omega)
                    obtain ⟨x9, hx9⟩ : ∃ x : Nat, l.getD 9 0 = (x : Int) ∧ x < 256 := by
                      have := bounds_u8 w9
                      exact ⟨(l.getD 9 0).toNat, by omega, by omega⟩
                    rw [hx9.1] at p9 hd9
                    obtain ⟨d9, hdd9⟩ : ∃ d : Nat, d = x9 % 128 := ⟨_, rfl⟩
                    have hb9 := hx9.2
                    have HD9 := Lib.hid hd9
                    clear w9 hd9 hx9 h9
                    have y9 : bits BinOp.and IntKind.u8 (x9 : Int) 127 = (d9 : Int) := by rw [u8_and127 _ (by omega) (by omega)]; omega
                    have z9 : IntKind.u64.wrap (d9 : Int) = (d9 : Int) := by rw [IntKind.wrap_u64]; omega
                    by_cases k9 : 1 < x9
                    · have u9 : decide (1 < (x9 : Int)) = true := by simp; omega
                      have HE : Hid (rd 0 0 l = none) := Lib.hid (by rw [HX9.out, HD9.out]; simp only [rd]; rw [if_pos (by simp; omega)])
                      have u9b : decide (1 < x9) = true := by simpa using k9
                      clear k9 hb9 hdd9
                      go_wp2_with fail
                      go_ret2
                      exact ⟨by rw [HE.out]; rfl, rfl⟩
                    have u9 : decide (1 < (x9 : Int)) = false := by simp; omega
                    have u9b : decide (1 < x9) = false := by simpa using k9
                    obtain ⟨a10, ha10⟩ : ∃ a : Nat, a = a9 + d9 * 9223372036854775808 := ⟨_, rfl⟩
                    have HB9x := HB9.out
                    have v9 : IntKind.u64.wrap ((d9 : Int) * 9223372036854775808) = (d9 : Int) * 9223372036854775808 := by rw [IntKind.wrap_u64]; omega
                    have o9 : bits BinOp.or IntKind.u64 (a9 : Int) ((d9 : Int) * 9223372036854775808) = (a10 : Int) := by rw [u64_orv63 _ _ (by omega) (by omega) (by omega) (by omega) (by omega)]; omega
                    have HB10 : Hid (a10 < 18446744073709551616) := Lib.hid (by omega)
                    have HS9 := Lib.hid (And.intro ha10 (And.intro hdd9 hb9))
                    clear ha10 hdd9 hb9 HB9x
                    have g9 : decide (128 ≤ (x9 : Int)) = false := by simp; omega
                    by_cases q9 : x9 = 0
                    · subst q9
                      have HE : Hid (rd 0 0 l = none) := Lib.hid (by rw [HX9.out, HD9.out]; simp only [rd]; rw [if_neg (by omega), if_neg (by omega), if_pos ⟨by omega, by omega⟩])
                      go_wp2_with fail
                      go_ret2
                      exact ⟨by rw [HE.out]; rfl, rfl⟩
                    have r9 : ((x9 : Int) == 0) = false := by simp; exact q9
                    have HE : Hid (rd 0 0 l = some (a10, 10)) := Lib.hid (by
                      have h := HS9.out
                      rw [HX9.out, HD9.out]
                      simp only [rd]
                      rw [if_neg (by omega), if_neg (by omega), if_neg (by omega)]
                      have e : a9 + (x9 : Int).toNat * 2 ^ (7 * 9) = a10 := by rw [show (x9 : Int).toNat = x9 by omega, show 2 ^ (7 * 9) = 9223372036854775808 from rfl]; omega
                      rw [e])
                    have zc := zag_code2 a10 (by have := HB10.out; omega)
                    clear  q9
                    go_wp2_with fail
                    go_ret2
                    exact ⟨by rw [HE.out]; rfl, rfl⟩
                  · have g8 : decide (128 ≤ (x8 : Int)) = false := by simp; omega
                    by_cases q8 : x8 = 0
                    · subst q8
                      have HE : Hid (rd 0 0 l = none) := Lib.hid (by rw [HX8.out, HD8.out]; simp only [rd]; rw [if_neg (by omega), if_neg (by omega), if_pos ⟨by omega, by omega⟩])
                      go_wp2_with fail
                      go_ret2
                      exact ⟨by rw [HE.out]; rfl, rfl⟩
                    have r8 : ((x8 : Int) == 0) = false := by simp; exact q8
                    have HE : Hid (rd 0 0 l = some (a9, 9)) := Lib.hid (by
                      have h := HS8.out
                      rw [HX8.out, HD8.out]
                      simp only [rd]
                      rw [if_neg (by omega), if_neg (by omega), if_neg (by omega)]
                      have e : a8 + (x8 : Int).toNat * 2 ^ (7 * 8) = a9 := by rw [show (x8 : Int).toNat = x8 by omega, show 2 ^ (7 * 8) = 72057594037927936 from rfl]; omega
                      rw [e])
                    have zc := zag_code2 a9 (by have := HB9.out; omega)
                    clear k8 q8
                    go_wp2_with fail
                    go_ret2
                    exact ⟨by rw [HE.out]; rfl, rfl⟩
                · have g7 : decide (128 ≤ (x7 : Int)) = false := by simp; omega
                  by_cases q7 : x7 = 0
                  · subst q7
                    have HE : Hid (rd 0 0 l = none) := Lib.hid (by rw [HX7.out, HD7.out]; simp only [rd]; rw [if_neg (by omega), if_neg (by omega), if_pos ⟨by omega, by omega⟩])
                    go_wp2_with fail
                    go_ret2
                    exact ⟨by rw [HE.out]; rfl, rfl⟩
                  have r7 : ((x7 : Int) == 0) = false := by simp; exact q7
                  have HE : Hid (rd 0 0 l = some (a8, 8)) := Lib.hid (by
                    have h := HS7.out
                    rw [HX7.out, HD7.out]
                    simp only [rd]
                    rw [if_neg (by omega), if_neg (by omega), if_neg (by omega)]
                    have e : a7 + (x7 : Int).toNat * 2 ^ (7 * 7) = a8 := by rw [show (x7 : Int).toNat = x7 by omega, show 2 ^ (7 * 7) = 562949953421312 from rfl]; omega
                    rw [e])
                  have zc := zag_code2 a8 (by have := HB8.out; omega)
                  clear k7 q7
                  go_wp2_with fail
                  go_ret2
                  exact ⟨by rw [HE.out]; rfl, rfl⟩
              · have g6 : decide (128 ≤ (x6 : Int)) = false := by simp; omega
                by_cases q6 : x6 = 0
                · subst q6
                  have HE : Hid (rd 0 0 l = none) := Lib.hid (by rw [HX6.out, HD6.out]; simp only [rd]; rw [if_neg (by omega), if_neg (by omega), if_pos ⟨by omega, by omega⟩])
                  go_wp2_with fail
                  go_ret2
                  exact ⟨by rw [HE.out]; rfl, rfl⟩
                have r6 : ((x6 : Int) == 0) = false := by simp; exact q6
                have HE : Hid (rd 0 0 l = some (a7, 7)) := Lib.hid (by
                  have h := HS6.out
                  rw [HX6.out, HD6.out]
                  simp only [rd]
                  rw [if_neg (by omega), if_neg (by omega), if_neg (by omega)]
                  have e : a6 + (x6 : Int).toNat * 2 ^ (7 * 6) = a7 := by rw [show (x6 : Int).toNat = x6 by omega, show 2 ^ (7 * 6) = 4398046511104 from rfl]; omega
                  rw [e])
                have zc := zag_code2 a7 (by have := HB7.out; omega)
                clear k6 q6
                go_wp2_with fail
                go_ret2
                exact ⟨by rw [HE.out]; rfl, rfl⟩
            · have g5 : decide (128 ≤ (x5 : Int)) = false := by simp; omega
              by_cases q5 : x5 = 0
              · subst q5
                have HE : Hid (rd 0 0 l = none) := Lib.hid (by rw [HX5.out, HD5.out]; simp only [rd]; rw [if_neg (by omega), if_neg (by omega), if_pos ⟨by omega, by omega⟩])
                go_wp2_with fail
                go_ret2
                exact ⟨by rw [HE.out]; rfl, rfl⟩
              have r5 : ((x5 : Int) == 0) = false := by simp; exact q5
              have HE : Hid (rd 0 0 l = some (a6, 6)) := Lib.hid (by
                have h := HS5.out
                rw [HX5.out, HD5.out]
                simp only [rd]
                rw [if_neg (by omega), if_neg (by omega), if_neg (by omega)]
                have e : a5 + (x5 : Int).toNat * 2 ^ (7 * 5) = a6 := by rw [show (x5 : Int).toNat = x5 by omega, show 2 ^ (7 * 5) = 34359738368 from rfl]; omega
                rw [e])
              have zc := zag_code2 a6 (by have := HB6.out; omega)
              clear k5 q5
              go_wp2_with fail
              go_ret2
              exact ⟨by rw [HE.out]; rfl, rfl⟩
          · have g4 : decide (128 ≤ (x4 : Int)) = false := by simp; omega
            by_cases q4 : x4 = 0
            · subst q4
              have HE : Hid (rd 0 0 l = none) := Lib.hid (by rw [HX4.out, HD4.out]; simp only [rd]; rw [if_neg (by omega), if_neg (by omega), if_pos ⟨by omega, by omega⟩])
              go_wp2_with fail
              go_ret2
              exact ⟨by rw [HE.out]; rfl, rfl⟩
            have r4 : ((x4 : Int) == 0) = false := by simp; exact q4
            have HE : Hid (rd 0 0 l = some (a5, 5)) := Lib.hid (by
              have h := HS4.out
              rw [HX4.out, HD4.out]
              simp only [rd]
              rw [if_neg (by omega), if_neg (by omega), if_neg (by omega)]
              have e : a4 + (x4 : Int).toNat * 2 ^ (7 * 4) = a5 := by rw [show (x4 : Int).toNat = x4 by omega, show 2 ^ (7 * 4) = 268435456 from rfl]; omega
              rw [e])
            have zc := zag_code2 a5 (by have := HB5.out; omega)
            clear k4 q4
            go_wp2_with fail
            go_ret2
            exact ⟨by rw [HE.out]; rfl, rfl⟩
        · have g3 : decide (128 ≤ (x3 : Int)) = false := by simp; omega
          by_cases q3 : x3 = 0
          · subst q3
            have HE : Hid (rd 0 0 l = none) := Lib.hid (by rw [HX3.out, HD3.out]; simp only [rd]; rw [if_neg (by omega), if_neg (by omega), if_pos ⟨by omega, by omega⟩])
            go_wp2_with fail
            go_ret2
            exact ⟨by rw [HE.out]; rfl, rfl⟩
          have r3 : ((x3 : Int) == 0) = false := by simp; exact q3
          have HE : Hid (rd 0 0 l = some (a4, 4)) := Lib.hid (by
            have h := HS3.out
            rw [HX3.out, HD3.out]
            simp only [rd]
            rw [if_neg (by omega), if_neg (by omega), if_neg (by omega)]
            have e : a3 + (x3 : Int).toNat * 2 ^ (7 * 3) = a4 := by rw [show (x3 : Int).toNat = x3 by omega, show 2 ^ (7 * 3) = 2097152 from rfl]; omega
            rw [e])
          have zc := zag_code2 a4 (by have := HB4.out; omega)
          clear k3 q3
          go_wp2_with fail
          go_ret2
          exact ⟨by rw [HE.out]; rfl, rfl⟩
      · have g2 : decide (128 ≤ (x2 : Int)) = false := by simp; omega
        by_cases q2 : x2 = 0
        · subst q2
          have HE : Hid (rd 0 0 l = none) := Lib.hid (by rw [HX2.out, HD2.out]; simp only [rd]; rw [if_neg (by omega), if_neg (by omega), if_pos ⟨by omega, by omega⟩])
          go_wp2_with fail
          go_ret2
          exact ⟨by rw [HE.out]; rfl, rfl⟩
        have r2 : ((x2 : Int) == 0) = false := by simp; exact q2
        have HE : Hid (rd 0 0 l = some (a3, 3)) := Lib.hid (by
          have h := HS2.out
          rw [HX2.out, HD2.out]
          simp only [rd]
          rw [if_neg (by omega), if_neg (by omega), if_neg (by omega)]
          have e : a2 + (x2 : Int).toNat * 2 ^ (7 * 2) = a3 := by rw [show (x2 : Int).toNat = x2 by omega, show 2 ^ (7 * 2) = 16384 from rfl]; omega
          rw [e])
        have zc := zag_code2 a3 (by have := HB3.out; omega)
        clear k2 q2
        go_wp2_with fail
        go_ret2
        exact ⟨by rw [HE.out]; rfl, rfl⟩
    · have g1 : decide (128 ≤ (x1 : Int)) = false := by simp; omega
      by_cases q1 : x1 = 0
      · subst q1
        have HE : Hid (rd 0 0 l = none) := Lib.hid (by rw [HX1.out, HD1.out]; simp only [rd]; rw [if_neg (by omega), if_neg (by omega), if_pos ⟨by omega, by omega⟩])
        go_wp2_with fail
        go_ret2
        exact ⟨by rw [HE.out]; rfl, rfl⟩
      have r1 : ((x1 : Int) == 0) = false := by simp; exact q1
      have HE : Hid (rd 0 0 l = some (a2, 2)) := Lib.hid (by
        have h := HS1.out
        rw [HX1.out, HD1.out]
        simp only [rd]
        rw [if_neg (by omega), if_neg (by omega), if_neg (by omega)]
        have e : a1 + (x1 : Int).toNat * 2 ^ (7 * 1) = a2 := by rw [show (x1 : Int).toNat = x1 by omega, show 2 ^ (7 * 1) = 128 from rfl]; omega
        rw [e])
      have zc := zag_code2 a2 (by have := HB2.out; omega)
      clear k1 q1
      go_wp2_with fail
      go_ret2
      exact ⟨by rw [HE.out]; rfl, rfl⟩
  · have g0 : decide (128 ≤ (x0 : Int)) = false := by simp; omega
    have HE : Hid (rd 0 0 l = some (a1, 1)) := Lib.hid (by
      have h := HS0.out
      rw [HX0.out, HD0.out]
      simp only [rd]
      rw [if_neg (by omega), if_neg (by omega), if_neg (by omega)]
      have e : 0 + (x0 : Int).toNat * 2 ^ (7 * 0) = a1 := by rw [show (x0 : Int).toNat = x0 by omega, show 2 ^ (7 * 0) = 1 from rfl]; omega
      rw [e])
    have zc := zag_code2 a1 (by have := HB1.out; omega)
    clear k0 
    by_cases q0 : x0 = 0
    · have r0 : ((x0 : Int) == 0) = true := by simp; exact q0
      clear q0
      go_wp2_with fail
      go_ret2
      exact ⟨by rw [HE.out]; rfl, rfl⟩
    · have r0 : ((x0 : Int) == 0) = false := by simp; exact q0
      clear q0
      go_wp2_with fail
      go_ret2
      exact ⟨by rw [HE.out]; rfl, rfl⟩
end Go.Proofs.Ytencgokpbfkeiaa
