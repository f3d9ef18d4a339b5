/- No number is that of two nodes. No condition. -/
import Derived.Test.YtmmmhkpekaimeaaRows
import Derived.WalkKit
import Derived.ProofKit
import Derived.OpenShut
import Derived.ChangeOld
import Derived.Below
import Derived.Outline
import Derived.Lib.SmallJoins
import Derived.Test.YtmmmhkpekaimeaaP8
set_option linter.unusedVariables false
namespace Go.Proofs.Ytmmmhkpekaimeaa.poolApart
open Go.ChangeShapes Go.WideShapes Go.ChangeAt Go.RowKit Go.Joins

theorem own : ownKnob Try.prog.godebug = none := by kernel_rfl
theorem laidOut : laidOutB Try.prog = true := by kernel_rfl

theorem reads3 {w : World} {B n k : Nat} {A : Option Addr} {S : List Int} (h : Reads w B 3 A n (iv S)) (hk : k < n) :
    ∃ b off, A = some ⟨b, off, none⟩ ∧ b < B ∧ w.cell? ⟨b, off + k * 3, none⟩ = some (.int .i64 (S.getD (k * 3) 0)) ∧ w.cell? ⟨b, off + k * 3 + 1, none⟩ = some (.int .i64 (S.getD (k * 3 + 1) 0)) ∧ w.cell? ⟨b, off + k * 3 + 2, none⟩ = some (.int .i64 (S.getD (k * 3 + 2) 0)) := by
  obtain ⟨b, off, hA, hb, hc⟩ := h.head (by omega) (by omega)
  exact ⟨b, off, hA, hb, hc _ (by omega), hc (k * 3 + 1) (by omega), hc (k * 3 + 2) (by omega)⟩
/-- what the rounds keep: the pool, the bits, all that is older -/
def Bits (w wr : World) (M r : Nat) : Prop := ∃ (X : List (Int × Bool)) (Y : List Int) (bits : List Bool), St wr w.heap.size w.heap.size (M : Int) X Y ∧ Y.length ≤ r ∧ Blk wr (w.heap.size + 1) 67 (bits.map Value.bool).toArray ∧ bits.length = 40 ∧ (∀ j, j < M → bits.getD (j + 1) false = tk X j) ∧ Below w.heap.size w wr
theorem St.far {w w' : World} {base g q : Nat} {most : Int} {X : List (Int × Bool)} {Y : List Int} {t : TypeId} {cs : Array Value} (h : St w base g most X Y) (hb : Blk w q t cs) (h0 : 103 ≠ t) (h1 : 105 ≠ t) (h2 : 3 ≠ t) (ho : Only (fun i => i = q) w w') : St w' base g most X Y := by
  obtain ⟨x, n, y, m, hp, hr⟩ := h
  exact ⟨x, n, y, m, hp.keep ho (fun e => Blk.ne_ hp.1 hb h0 e) (fun b hx e => own_ne hp.2.1 hb h1 (by rw [hx, e])) (fun b hx e => own_ne hp.2.2.1 hb h2 (by rw [hx, e])), hr⟩
theorem bits_set {w w1 : World} {M k r : Nat} {X X' : List (Int × Bool)} {Y' : List Int} {bits : List Bool} (t : Bool) (hst : St w1 w.heap.size w.heap.size (M : Int) X' Y') (hy : Y'.length ≤ r) (hb1 : Blk w1 (w.heap.size + 1) 67 (bits.map Value.bool).toArray) (hlen : bits.length = 40) (hk : k < M) (hM : M ≤ 30) (hbits : ∀ j, j < M → bits.getD (j + 1) false = tk X j) (hX : ∀ j, tk X' j = if j = k then t else tk X j) (kb : Below w.heap.size w w1) : Bits w (w1.setCell ⟨w.heap.size + 1, k + 1, none⟩ (.bool t)) M r := by
  have ho : Only (fun i => i = w.heap.size + 1) w1 (w1.setCell ⟨w.heap.size + 1, k + 1, none⟩ (.bool t)) := Only.setCell (S := fun i => i = w.heap.size + 1) (p := ⟨w.heap.size + 1, k + 1, none⟩) (Only.refl _ w1) (.inr rfl) _
  refine ⟨X', Y', bits.set (k + 1) t, St.far hst hb1 (by decide) (by decide) (by decide) ho, hy, ?_, by simp [hlen], ?_, kb.setCell (Nat.le_succ _) _⟩
  · have h := hb1.set_ (k + 1) (.bool t)
    simpa [List.map_set] using h
  · intro j hj
    rw [hX, ← hbits j hj, List.getD_eq_getElem?_getD, List.getD_eq_getElem?_getD, List.getElem?_set]
    by_cases e : j = k
    · subst e
      rw [if_pos rfl, if_pos (by omega), if_pos rfl]; rfl
    · rw [if_neg (by omega), if_neg e]
theorem bits_cell {w1 : World} {q k : Nat} {bits : List Bool} (hb1 : Blk w1 q 67 (bits.map Value.bool).toArray) (hk : k < bits.length) : w1.cell? ⟨q, k, none⟩ = some (.bool (bits.getD k false)) := by
  rw [hb1.cell]
  simp [List.getD_eq_getElem?_getD, List.getElem?_eq_getElem hk]
set_option maxRecDepth 100000 in
set_option maxHeartbeats 8000000 in
theorem walk (a0 : Int) (A1 : Option Addr) (n1 c1 : Nat) (z1 : List Int) (w : World) (w0 : (Lit.int .u8 a0).wf = true) (r1 : Reads w w.heap.size 3 A1 n1 (iv z1)) (o1 : okAll z1) (m1 : n1 ≤ c1 ∧ c1 ≤ maxLen) :
    Calls Try.prog 9 #[.int .u8 a0, .slice A1 n1 c1] w fun e w' => e = .returned (.bool true) ∧ Below w.heap.size w w' := by
  have hb0 := bounds_u8 w0
  obtain ⟨M, hM, hM1, hM2⟩ : ∃ M : Nat, 1 + a0 % 30 = (M : Int) ∧ 1 ≤ M ∧ M ≤ 30 := ⟨(1 + a0 % 30).toNat, by omega, by omega, by omega⟩
  have P1 : St (w.alloc (.cells #[.int .i64 (M : Int), .slice none 0 0, .slice none 0 0] 103)) w.heap.size w.heap.size (M : Int) [] [] := ⟨.slice none 0 0, 0, .slice none 0 0, 0, ⟨Blk.new w 103 _, World.ownsRow_nil _ _ _ _, World.ownsRow_nil _ _ _ _, fun b hb => by cases hb⟩, ready_nil _, by omega, rfl, rfl, Nat.le_refl _⟩
  have HP := Lib.hid P1
  clear P1 w0
  go_enter Try.func9, Try.ntmps9
  go_wp2_with fail
  refine (pool_new (M : Int) (by omega) _).mono ?_
  rintro e w1 ⟨rfl, rfl⟩
  go_wp2_with fail
  have HR := Lib.hid r1
  clear r1 o1 hb0 hM
  go_loopg [9, 10, 11] 80 (fun q i kk ff wr => ∃ r : Nat, q = 80 - r ∧ r ≤ 80 ∧ r ≤ n1 ∧ i = .int .i64 r ∧ Bits w wr M r)
  case atStart =>
    refine ⟨0, rfl, by omega, by omega, rfl, [], [], List.replicate 40 false, ?_, by simp, ?_, by simp, ?_, ?_⟩
    · obtain ⟨x, n, y, m, hp, h2⟩ := HP.out
      exact ⟨x, n, y, m, hp.keep ((Only.refl (fun _ => False) _).alloc _) (fun h => h) (fun _ _ h => h) (fun _ _ h => h), h2⟩
    · have h := Blk.new (w.alloc (.cells #[.int .i64 (M : Int), .slice none 0 0, .slice none 0 0] 103)) 67 (((List.replicate 40 false).map Value.bool).toArray)
      have hs : (w.alloc (.cells #[.int .i64 (M : Int), .slice none 0 0, .slice none 0 0] 103)).heap.size = w.heap.size + 1 := by simp
      rw [hs] at h
      exact h
    · intro j hj
      rw [List.getD_eq_getElem?_getD, List.getElem?_replicate]
      split <;> simp [tk]
    · exact ((Below.refl _ _).alloc (Nat.le_refl _) _).alloc (by simp) _
  case round =>
    obtain ⟨r, rfl, hr, hrn, rfl, X, Y, bits, hst, hy, hbl, hlen, hbits, kb⟩ := hrel
    have HBits := Lib.hid hbits
    have HBl := Lib.hid hbl
    have HSt := Lib.hid hst
    have HLen := Lib.hid hlen
    clear hbits hbl hst hlen
    by_cases hlt : r < n1
    · by_cases h80 : r < 80
      · obtain ⟨b, off, rfl, hbB, q0, q1, q2⟩ := reads3 (HR.out.below kb) hlt
        clear q2
        generalize z1.getD (r * 3) 0 = s0 at *
        generalize z1.getD (r * 3 + 1) 0 = s1 at *
        by_cases hk : s0 = 1
        · subst hk
          go_wp2_with fail
          refine (give_st w.heap.size w.heap.size (M : Int) s1 X Y wr HSt.out (by omega) kb.size (by omega)).mono ?_
          intro e w1 hP
          obtain ⟨hres, hk1, hk2⟩ := hP
          have kb1 := kb.trans hk1
          have HBl1 := Lib.hid (hk2 _ _ _ HBl.out (by decide) (by decide) (by decide))
          rcases hres with ⟨k, X', Y', rfl, he, hst', hkM, htk, hyl, hX'⟩ | ⟨he, hst'⟩
          · obtain rfl : e = .returned (.int .i64 0) := he
            have p1 : w1.cell? ⟨b, off + r * 3 + 1, none⟩ = some (.int .i64 ((k : Int) + 1)) := (hk1.cell hbB).trans q1
            have p2 : w1.cell? ⟨w.heap.size + 1, k + 1, none⟩ = some (.bool true) := by rw [bits_cell HBl1.out (by have := HLen.out; omega), HBits.out k (by omega), htk]
            have p3 := HBl1.out.frozen (k + 1)
            have t1 : decide ((k : Int) + 1 < 1) = false := decide_eq_false (by omega)
            have t2 : decide ((M : Int) < (k : Int) + 1) = false := decide_eq_false (by omega)
            have t3 : IntKind.i64.wrap ((k : Int) + 1) = (k : Int) + 1 := IntWalk.i64_in _ (by omega)
            have HSt1 := Lib.hid hst'
            have HX1 := Lib.hid hX'
            clear q0 q1 hst' hX' htk hk1 hk2 kb
            go_wp2_with fail
            go_roundg (80 - (r + 1))
            case measure => omega
            case rel => exact ⟨r + 1, rfl, by omega, by omega, by go_num, bits_set false HSt1.out (by omega) HBl1.out HLen.out (by omega) hM2 HBits.out HX1.out kb1⟩
          · obtain rfl : e = .returned (.int .i64 6) := he
            have HSt1 := Lib.hid hst'
            clear q0 q1 hst' hk1 hk2 kb
            go_wp2_with fail
            go_roundg (80 - (r + 1))
            case measure => omega
            case rel => exact ⟨r + 1, rfl, by omega, by omega, by go_num, X, Y, bits, HSt1.out, by omega, HBl1.out, HLen.out, HBits.out, kb1⟩
        · have hk' : (s0 == 1) = false := by simpa using hk
          go_wp2_with fail
          refine (take_st w.heap.size w.heap.size (M : Int) (r : Int) X Y wr HSt.out (by omega) kb.size).mono ?_
          intro e w1 hP
          obtain ⟨hres, hk1, hk2⟩ := hP
          have kb1 := kb.trans hk1
          have HBl1 := Lib.hid (hk2 _ _ _ HBl.out (by decide) (by decide) (by decide))
          rcases hres with ⟨k, X', Y', he, hst', hkM, htk, hyl, hX'⟩ | ⟨he, hst'⟩
          · obtain rfl : e = .returned (.tuple #[.int .i64 ((k : Int) + 1), .int .i64 0]) := he
            have p2 : w1.cell? ⟨w.heap.size + 1, k + 1, none⟩ = some (.bool false) := by rw [bits_cell HBl1.out (by have := HLen.out; omega), HBits.out k (by omega), htk]
            have p3 := HBl1.out.frozen (k + 1)
            have t1 : decide ((k : Int) + 1 < 1) = false := decide_eq_false (by omega)
            have t2 : decide ((M : Int) < (k : Int) + 1) = false := decide_eq_false (by omega)
            have t3 : IntKind.i64.wrap ((k : Int) + 1) = (k : Int) + 1 := IntWalk.i64_in _ (by omega)
            have HSt1 := Lib.hid hst'
            have HX1 := Lib.hid hX'
            clear q0 q1 hst' hX' htk hk1 hk2 kb
            go_wp2_with fail
            go_roundg (80 - (r + 1))
            case measure => omega
            case rel => exact ⟨r + 1, rfl, by omega, by omega, by go_num, bits_set true HSt1.out (by omega) HBl1.out HLen.out (by omega) hM2 HBits.out HX1.out kb1⟩
          · obtain rfl : e = .returned (.tuple #[.int .i64 0, .int .i64 4]) := he
            have HSt1 := Lib.hid hst'
            clear q0 q1 hst' hk1 hk2 kb
            go_wp2_with fail
            go_roundg (80 - (r + 1))
            case measure => omega
            case rel => exact ⟨r + 1, rfl, by omega, by omega, by go_num, X, Y, bits, HSt1.out, by omega, HBl1.out, HLen.out, HBits.out, kb1⟩
      · obtain rfl : r = 80 := by omega
        go_wp2_with fail
        refine (lives6 _).mono ?_
        rintro e w9 ⟨rfl, hb9⟩
        go_wp2_with fail
        go_ret
        exact ⟨rfl, kb.trans (hb9.mono kb.size)⟩
    · obtain rfl : r = n1 := by omega
      go_wp2_with fail
      refine (lives6 _).mono ?_
      rintro e w9 ⟨rfl, hb9⟩
      go_wp2_with fail
      go_ret
      exact ⟨rfl, kb.trans (hb9.mono kb.size)⟩
set_option maxRecDepth 100000 in
theorem lifted (os : Os) (started : os.Started) (H : Type) (enc : TypeId × Value → H) :
    ReturnsInHanded {} Try.checked os 9 .any (Rows.poolApartSpec.pre6 enc Try.prog Try.f9 Rows.poolApartRow.domain false) (Rows.poolApartSpec.post enc Try.prog Try.f9 false true false false) := by
  refine returnsInHanded_of_change (C := Try.checked) own started (by kernel_rfl) Try.func9
    (ChangeSpec.witness6 (enc := enc) (C := Try.checked) false ⟨#[], #[.int .u8 0, .slice none 0 0], []⟩ 8 (by kernel_rfl) (by kernel_rfl) (by kernel_rfl) (by kernel_rfl)) ?_
  intro W base args ds gs before hval0 hW hcnd _
  have hval : ∀ (j : Nat) t v, Try.f9.params[j]? = some t → args[j]? = some v → Value.okWide Try.prog W .any base t v := hval0
  have hW' := hW
  obtain ⟨p, q, hA0, hV, rfl, hfz, hnd⟩ := hW
  have hA : DataW.TrodAll enc Try.prog W 0 (fun _ => true) true Try.f9.params.toList args.toList ds p := hA0
  rw [Try.params9] at hA hval
  obtain ⟨v0, vs0, d0, ds0, p0, q0, hargs, rfl, rfl, h0, rr0⟩ := trodAll_cons hA
  obtain ⟨v1, vs1, d1, ds1, p1, q1, rfl, rfl, rfl, h1, rr1⟩ := trodAll_cons rr0
  obtain ⟨rfl, rfl, rfl⟩ := trodAll_nil rr1
  obtain rfl : args = #[v0, v1] := by cases args; simp_all
  obtain ⟨rfl, rfl⟩ := trodVars_none hV
  have k0 := h0
  have lt0 : ∀ x ∈ p0, x.block < W.heap.size := by obtain ⟨m, hm⟩ := k0; exact DataW.trod_lt m _ _ _ hm
  obtain ⟨a0, rfl, _, _, w0⟩ := open_int Try.underlying5 (hval 0 5 v0 rfl rfl) h0
  have k1 := h1
  have lt1 : ∀ x ∈ p1, x.block < W.heap.size := by obtain ⟨m, hm⟩ := k1; exact DataW.trod_lt m _ _ _ hm
  obtain ⟨A1, n1, c1, rfl⟩ := okWide_slice Try.underlying50 (hval 1 50 v1 rfl rfl)
  obtain ⟨z1, r1, o1, m1⟩ := rows_open (F := 3) Try.underlying50 Try.underlying60 (by kernel_rfl) (by kernel_rfl) rfl (by decide) (by intro j f hj; match j, hj with | 0, hj => cases hj; exact Try.underlying3 | 1, hj => cases hj; exact Try.underlying3 | 2, hj => cases hj; exact Try.underlying3 | j + 3, hj => simp at hj) h1
  clear hA0 hval0
  refine (walk a0 A1 n1 c1 z1 W w0 r1 o1 m1).mono fun e W' ⟨he, bel⟩ => ?_
  subst he
  exact ⟨_, rfl, _, _, _, [], _, [], hW', trodAll_mk1 (shut_bool Try.underlying4 _), (trodAll_cons_mk (Below.trod laidOut (by kernel_rfl) (of_decide_eq_true (by kernel_rfl)) k0 bel lt0) (trodAll_cons_mk (Below.trod laidOut (by kernel_rfl) (of_decide_eq_true (by kernel_rfl)) k1 bel lt1) trodAll_mk0)), rfl, bel.frame _, fun h => by cases h⟩

theorem over : Rows.poolApartRow.holds Try.pinned (OpenSpec.ofChange Rows.poolApartSpec) :=
  OpenClaim.holds_of_wide 9 Try.f9 rfl rfl rfl rfl rfl rfl rfl ⟨rfl, rfl, rfl, rfl, rfl⟩ rfl rfl rfl rfl rfl (by kernel_rfl) Try.func9 (by kernel_rfl)
    (of_decide_eq_true (by kernel_rfl)) (by unfold Func.isWrapper; first | (rw [if_pos (by decide +kernel)]; kernel_rfl) | (rw [if_neg (by decide +kernel)]; exact ⟨rfl, rfl⟩))
    (fun os started H enc _ => lifted os started H enc)

theorem proved : Rows.PoolApartSaid := over
#print axioms proved
end Go.Proofs.Ytmmmhkpekaimeaa.poolApart
