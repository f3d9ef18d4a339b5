/- Turns come in the order of Wants, each once, one at a time. No condition. -/
import Derived.Test.YtmomafhpbbmiaaaRows
import Derived.WalkKit
import Derived.ProofKit
import Derived.OpenShut
import Derived.ChangeOld
import Derived.Below
import Derived.Outline
import Derived.Lib.SmallJoins
import Derived.Test.YtmomafhpbbmiaaaU5
set_option linter.unusedVariables false
namespace Go.Proofs.Ytmomafhpbbmiaaa.queueOrder
open Go.ChangeShapes Go.WideShapes Go.ChangeAt Go.RowKit Go.Joins

theorem own : ownKnob Try.prog.godebug = none := by kernel_rfl
theorem laidOut : laidOutB Try.prog = true := by kernel_rfl

set_option maxRecDepth 100000 in
set_option maxHeartbeats 16000000 in
theorem walk (a0 : Int) (A1 : Option Addr) (n1 c1 : Nat) (z1 : List Int) (w : World) (w0 : (Lit.int .u8 a0).wf = true) (r1 : Reads w w.heap.size 1 A1 n1 (kv .u8 z1)) (o1 : okK .u8 z1) (m1 : n1 ≤ c1 ∧ c1 ≤ maxLen) :
    Calls Try.prog 7 #[.int .u8 a0, .slice A1 n1 c1] w fun e w' => e = .returned (.bool true) ∧ Below w.heap.size w w' := by
  obtain ⟨i0, hi0, hz0, hz1, hz2⟩ := info_parts int_info
  have hb0 := bounds_u8 w0
  obtain ⟨M, hM, hM2⟩ : ∃ M : Nat, a0 % 40 = (M : Int) ∧ M < 40 := ⟨(a0 % 40).toNat, by omega, by omega⟩
  have HR := Lib.hid r1
  have HOK := Lib.hid o1
  clear r1 o1 w0
  go_enter Try.func7, Try.ntmps7
  go_wp2_with fail
  refine (q_new 50 (by omega) _).mono ?_
  rintro e w1 ⟨rfl, q1, k1⟩
  have S0 : Hid (Qu (w1.alloc (.cells #[] 3)) w.heap.size (w.heap.size + 1) w.heap.size 50 (.slice none 0 0) (dn 0) 0 false 0) := Lib.hid (q1.still (only_new (S := fun _ => False) _ _))
  have S1 : Hid ((w1.alloc (.cells #[] 3)).ownsRow w.heap.size 3 1 (.slice (some ⟨w1.heap.size, 0, none⟩) 0 0) 0 (iv (dn 0))) := Lib.hid (own_new_base w1 _ k1.size)
  have S2 : Hid (∀ b, (Value.slice (some ⟨w1.heap.size, 0, none⟩) 0 0).ownBlock = some b → ¬ QB (w.heap.size + 1) w.heap.size (.slice none 0 0) b) := Lib.hid (fun b hb h => by
    have hb' : b = w1.heap.size := (Option.some.inj hb).symm
    rcases h with h | h | h
    · have := q1.1.lt; omega
    · have := q1.2.2.lt; omega
    · cases h)
  have S3 : Hid (Below w.heap.size w (w1.alloc (.cells #[] 3))) := Lib.hid (k1.alloc k1.size _)
  clear q1 k1
  go_wp2_with fail
  clear hM
  go_loopg [8, 9] M (fun q v i wr => ∃ k : Nat, q = M - k ∧ k ≤ M ∧ i = .int .i64 k ∧ ∃ A c x, v = .slice A k c ∧ Hid (Qu wr w.heap.size (w.heap.size + 1) w.heap.size 50 x (dn k) 0 false 0) ∧ Hid (wr.ownsRow w.heap.size 3 1 (.slice A k c) k (iv (dn k))) ∧ Hid (∀ b, (Value.slice A k c).ownBlock = some b → ¬ QB (w.heap.size + 1) w.heap.size x b) ∧ Hid (Below w.heap.size w wr))
  case atStart =>
    exact ⟨0, rfl, by omega, rfl, _, _, _, rfl, S0, S1, S2, S3⟩
  case round =>
    obtain ⟨k, rfl, hk, rfl, A, c, x, rfl, hq, how, hdis, kb⟩ := hrel
    clear S0 S1 S2 S3
    by_cases hlt : k < M
    · have s1 : IntKind.i64.wrap (100 - (k : Int)) = 100 - (k : Int) := IntWalk.i64_in _ (by omega)
      have W1 := q_want_via _ _ _ _ _ _ _ _ _ (100 - (k : Int)) 0 _ wr hq.out rfl (ring_push _ _ _ _ (dn k) (100 - (k : Int)) wr hq.out.2.2 (dn_miss k) (by rw [dn_len]; omega) kb.out.size)
      have HW1 := Lib.hid W1
      clear W1
      go_wp2_with fail
      refine (HW1.out).mono ?_
      rintro e w2 ⟨rfl, x2, g2, o2, hx2⟩
      have o2' : Only (QB (w.heap.size + 1) w.heap.size x) wr w2 := o2.mono (fun i _ h => h.elim (fun h => .inr (.inl h)) (fun h => .inr (.inr h)))
      have q2 : Qu w2 w.heap.size (w.heap.size + 1) w.heap.size 50 x2 (dn (k + 1)) 0 false 0 := ⟨o2.blk hq.out.1 (fun e => e.elim hq.out.ne.1 (fun e => hq.out.ne.2 e)), hq.out.2.1, by rw [dn_succ]; exact g2⟩
      have ow2 : w2.ownsRow w.heap.size 3 1 (.slice A k c) k (iv (dn k)) := o2'.own how.out (fun b hb h => hdis.out b hb h)
      have d2 : ∀ b, (Value.slice A k c).ownBlock = some b → ¬ QB (w.heap.size + 1) w.heap.size x2 b := fun b hb h => by
        rcases h with h | h | h
        · exact hdis.out b hb (.inl h)
        · exact hdis.out b hb (.inr (.inl h))
        · rcases hx2 with e | e
          · exact hdis.out b hb (.inr (.inr (by rw [← e, h])))
          · have h1 := e b h; have h2 := (how.out.lt b hb).2; omega
      have HQ2 := Lib.hid q2
      have HB2 := Lib.hid (kb.out.trans (hq.out.below o2'))
      have KO : Hid ((w2.alloc (.cells #[.int .i64 (100 - (k : Int))] 3)).ownsRow w.heap.size 3 1 (.slice A k c) k (iv (dn k))) := Lib.hid ((only_new (S := fun _ => False) w2 _).own ow2 (fun _ _ h => h))
      have KR : Hid (Reads (w2.alloc (.cells #[.int .i64 (100 - (k : Int))] 3)) (w2.alloc (.cells #[.int .i64 (100 - (k : Int))] 3)).heap.size 1 (some ⟨w2.heap.size, 0, none⟩) 1 (iv [100 - (k : Int)])) := Lib.hid (Reads.of_own (base := 0) (e := 3) (c := 1) (World.ownsRow_lit (size := 1) (e := 3) w2 #[.int .i64 (100 - (k : Int))] 1 (Nat.zero_le _) (by simp [maxLen]) rfl))
      have KZ : Hid (w.heap.size ≤ (w2.alloc (.cells #[.int .i64 (100 - (k : Int))] 3)).heap.size) := Lib.hid (Nat.le_trans HB2.out.size (by simp))
      have HD2 := Lib.hid d2
      clear o2 o2' q2 ow2 d2 g2 hx2
      go_wp2_with (first
        | (at_builtin
           refine wpList_append_any _ rfl (.tmp 45) (.tmp 48) _ rfl w.heap.size 3 i0 _ 1 8 Try.underlying28 hi0 hz0 hz1 hz2 rfl (by omega) (.slice A k c) k (iv (dn k)) rfl KO.out _ _ 1 1 (iv [100 - (k : Int)]) rfl KR.out iv_one (by simp only [maxLen]; omega) (by omega) KZ.out ?_
           intro v3 w3 hown3 hg3 hat3
           rw [iv_append, ← dn_succ] at hown3
           obtain ⟨A3, c3, rfl, hr3⟩ := own_slice hown3
           clear hr3
           have o3 : Only (fun i => some i = (Value.slice A k c).ownBlock) w2 w3 := (only_new (S := fun i => some i = (Value.slice A k c).ownBlock) w2 _).trans (Only.of_grown (S := fun i => some i = (Value.slice A k c).ownBlock) hg3 (fun _ h => h)) (fun _ _ h => h)
           have q3 : Hid (Qu w3 w.heap.size (w.heap.size + 1) w.heap.size 50 x2 (dn (k + 1)) 0 false 0) := Lib.hid (HQ2.out.keep o3 (fun h => HD2.out _ h.symm (.inl rfl)) (fun h => HD2.out _ h.symm (.inr (.inl rfl))) (fun b hb h => HD2.out _ h.symm (.inr (.inr hb))))
           have q4 := Lib.hid hown3
           have q5 : Hid (Below w.heap.size w w3) := Lib.hid (HB2.out.trans (o3.below HB2.out.size (fun i hi h => by have := (how.out.lt i h.symm).1; omega)))
           have q6 : Hid (∀ b, (Value.slice A3 (k + 1) c3).ownBlock = some b → ¬ QB (w.heap.size + 1) w.heap.size x2 b) := Lib.hid (fun b hb h => by
             rcases hat3 with e | e
             · exact HD2.out b (by rw [← e]; exact hb) h
             · rw [e] at hb
               have hb' : b = (w2.alloc (.cells #[.int .i64 (100 - (k : Int))] 3)).heap.size := (Option.some.inj hb).symm
               have hz : (w2.alloc (.cells #[.int .i64 (100 - (k : Int))] 3)).heap.size = w2.heap.size + 1 := by simp
               rcases h with h | h | h
               · have := HQ2.out.1.lt; omega
               · have := HQ2.out.2.2.lt; omega
               · have := (HQ2.out.2.2.own _ h).2.1; omega)
           clear hown3 hg3 hat3 o3)
        | fail)
      go_roundg (M - (k + 1))
      case measure => omega
      case rel => exact ⟨k + 1, rfl, by omega, by go_num, _, _, _, rfl, q3, q4, q6, q5⟩
    · obtain rfl : k = M := by omega
      have LQ : Hid (Lq wr A k c (dn k) (QB (w.heap.size + 1) w.heap.size x)) := Lib.hid (by
        have ho := how.out
        refine ⟨(dn_len k).symm, ?_⟩
        have hr : Reads wr wr.heap.size 1 A k (iv (dn k)) := Reads.of_own ho
        rcases ho.2 with ⟨h1, h2⟩ | ⟨b, cap, cur, hv, hb, hh, hn, hcap, h4⟩
        · cases h1
          exact ⟨Nat.zero_le _, by simp [maxLen], hr, fun ad hA => by cases hA⟩
        · cases hv
          exact ⟨hn, hcap, hr, fun ad hA => by cases hA; exact ⟨(ho.lt b rfl).2, hdis.out b rfl⟩⟩)
      clear how hdis
      go_wp2_with fail
      go_loopg [8, 10] 10 (fun q v i wr => ∃ t : Nat, q = 10 - t ∧ t ≤ 10 ∧ t ≤ n1 ∧ i = .int .i64 t ∧ ∃ A n c x L, v = .slice A n c ∧ Hid (Qu wr w.heap.size (w.heap.size + 1) w.heap.size 50 x L 0 false 0) ∧ Hid (Lq wr A n c L (QB (w.heap.size + 1) w.heap.size x)) ∧ Hid (L.Nodup ∧ L.length ≤ 40) ∧ Hid (Below w.heap.size w wr))
      case atStart => exact ⟨0, rfl, by omega, by omega, rfl, _, _, _, _, _, rfl, hq, LQ, Lib.hid ⟨dn_nodup k, by rw [dn_len]; omega⟩, kb⟩
      case round =>
        clear hq LQ kb
        obtain ⟨t, rfl, ht, htn, rfl, A, n, c, x, L, rfl, hq, hl, hnd, kb⟩ := hrel
        by_cases hlt : t < n1
        · by_cases h10 : t < 10
          · obtain ⟨b, off, rfl, hbB, p0⟩ := reads_kcell (HR.out.below kb.out) hlt
            have hz : (Lit.int .u8 (z1.getD t 0)).wf = true := okK_get HOK.out t (by have := HR.out.klen; omega)
            generalize z1.getD t 0 = z at *
            have hz' := bounds_u8 hz
            obtain ⟨idv, hid⟩ : ∃ idv : Nat, z % 50 = (idv : Int) ∧ idv < 50 := ⟨(z % 50).toNat, by omega, by omega⟩
            obtain ⟨hid1, hid2⟩ := hid
            have s1 : IntKind.i64.wrap (60 + (idv : Int)) = 60 + (idv : Int) := IntWalk.i64_in _ (by omega)
            clear hz
            have hb := idx_bd L (60 + (idv : Int))
            have hn4 : n ≤ 100000 := by have := hl.out.1; have := hnd.out.2; omega
            by_cases hi : idx L (60 + (idv : Int)) < 0
            · have W1 := q_leave_no _ _ _ _ _ _ _ _ _ (60 + (idv : Int)) _ wr hq.out rfl (ring_drop_no _ _ _ _ L (60 + (idv : Int)) wr hq.out.2.2 hi)
              have AT := fun V (hV : Only (fun _ => False) wr V) => at_any A n c _ L (60 + (idv : Int)) V (hl.out.still hV).2.2.2.1 (Nat.le_trans hl.out.2.1 hl.out.2.2.1)
              have RD := fun V (hV : Only (fun _ => False) wr V) => rdrop_no A n c _ L (60 + (idv : Int)) V (hl.out.still hV).2.2.2.1 (Nat.le_trans hl.out.2.1 hl.out.2.2.1) hi
              generalize idx L (60 + (idv : Int)) = ix at *
              have HW1 := Lib.hid W1
              have HAT := Lib.hid AT
              have HRD := Lib.hid RD
              clear W1 AT RD hb
              go_wp2_with fail
              refine (HW1.out).mono ?_
              rintro e w2 ⟨rfl, hb2⟩
              have o2 := Only.of_below0 hb2
              have HO2 := Lib.hid o2
              clear hb2 o2
              go_wp2_with fail
              refine (HAT.out _ HO2.out).mono ?_
              rintro e wq ⟨rfl, rfl⟩
              go_wp2_with fail
              refine (HRD.out _ HO2.out).mono ?_
              rintro e wq ⟨rfl, rfl⟩
              go_wp2_with fail
              go_roundg (10 - (t + 1))
              case measure => omega
              case rel => exact ⟨t + 1, rfl, by omega, by omega, by go_num, _, _, _, _, _, rfl, Lib.hid (hq.out.still HO2.out), Lib.hid (hl.out.still HO2.out), hnd, Lib.hid (kb.out.trans (HO2.out.below kb.out.size (fun _ _ h => h)))⟩
            · have W1 := q_leave_yes _ _ _ _ _ _ _ _ _ (60 + (idv : Int)) _ wr hq.out rfl (ring_drop _ _ _ _ L (60 + (idv : Int)) wr hq.out.2.2 (by omega))
              have AT := fun V (hV : Lq V A n c L (QB (w.heap.size + 1) w.heap.size x)) => at_any A n c _ L (60 + (idv : Int)) V hV.2.2.2.1 (Nat.le_trans hV.2.1 hV.2.2.1)
              have RD := fun V (hV : Lq V A n c L (QB (w.heap.size + 1) w.heap.size x)) => rdrop_yes A n c _ (idx L (60 + (idv : Int))).toNat L (60 + (idv : Int)) V hV.2.2.2.1 (Nat.le_refl _) hn4 hV.2.1 hV.2.2.1 (by omega)
              have hi' : 0 ≤ idx L (60 + (idv : Int)) := by omega
              have HE : Hid ((L.eraseIdx (idx L (60 + (idv : Int))).toNat).Nodup ∧ (L.eraseIdx (idx L (60 + (idv : Int))).toNat).length ≤ 40) := Lib.hid ⟨erase_nodup L hnd.out.1 _, by have := List.length_eraseIdx_le L (idx L (60 + (idv : Int))).toNat; have := hnd.out.2; omega⟩
              clear hi
              generalize L.eraseIdx (idx L (60 + (idv : Int))).toNat = L' at *
              generalize idx L (60 + (idv : Int)) = ix at *
              have HW1 := Lib.hid W1
              have HAT := Lib.hid AT
              have HRD := Lib.hid RD
              clear W1 AT RD hb
              go_wp2_with fail
              refine (HW1.out).mono ?_
              rintro e w2 ⟨rfl, g2, o2⟩
              have o2' : Only (QB (w.heap.size + 1) w.heap.size x) wr w2 := o2.mono (fun i _ h => h.elim (fun h => .inr (.inl h)) (fun h => .inr (.inr h)))
              have HQ2 : Hid (Qu w2 w.heap.size (w.heap.size + 1) w.heap.size 50 x L' 0 false 0) := Lib.hid ⟨o2.blk hq.out.1 (fun e => e.elim hq.out.ne.1 (fun e => hq.out.ne.2 e)), hq.out.2.1, g2⟩
              have HL2 := Lib.hid (hl.out.step o2' (fun _ _ h => h) (fun _ _ h => h))
              have HB2 := Lib.hid (kb.out.trans (hq.out.below o2'))
              clear g2 o2 o2'
              go_wp2_with fail
              refine (HAT.out _ HL2.out).mono ?_
              rintro e wq ⟨rfl, rfl⟩
              go_wp2_with fail
              refine (HRD.out _ HL2.out).mono ?_
              rintro e w3 ⟨u, rfl, fr, o3⟩
              obtain ⟨A3, n3, c3, rfl, L3⟩ := Lq.fresh (P := QB (w.heap.size + 1) w.heap.size x) fr (fun i h1 h2 h3 => by
                rcases h3 with e | e | e
                · have := HQ2.out.1.lt; omega
                · have := HQ2.out.2.2.lt; omega
                · have := (HQ2.out.2.2.own _ e).2.1; omega)
              have HL3 := Lib.hid L3
              have HO3 := Lib.hid o3
              clear fr o3 L3
              go_wp2_with fail
              go_roundg (10 - (t + 1))
              case measure => omega
              case rel => exact ⟨t + 1, rfl, by omega, by omega, by go_num, _, _, _, _, _, rfl, Lib.hid (HQ2.out.still HO3.out), HL3, HE, Lib.hid (HB2.out.trans (HO3.out.below HB2.out.size (fun _ _ h => h)))⟩
          · obtain rfl : t = 10 := by omega
            go_wp2_with fail
            have hnL := hl.out.1
            have hn4 : n ≤ 40 := by have := hnd.out.2; omega
            have HNL := Lib.hid hnL
            clear hnL
            go_loopg [12] n (fun q i wz => ∃ k : Nat, q = n - k ∧ k ≤ n ∧ i = .int .i64 k ∧ Hid (Qu wz w.heap.size (w.heap.size + 1) w.heap.size 50 x (L.drop k) 0 false k) ∧ Hid (Lq wz A n c L (QB (w.heap.size + 1) w.heap.size x)) ∧ Hid (Below w.heap.size w wz))
            case atStart => exact ⟨0, rfl, by omega, rfl, hq, hl, kb⟩
            case round =>
              clear hq hl kb
              obtain ⟨k, rfl, hk, rfl, hq, hl, kb⟩ := hrel
              by_cases hlt : k < n
              · have hkl : k < L.length := by have := HNL.out; omega
                have hq' := hq.out
                rw [drop_at L k hkl] at hq'
                obtain ⟨b, off, rfl, hbl, p0⟩ := hl.out.cell k hlt
                have p1 := (hl.out.2.2.2.1)
                obtain ⟨b', off', hA', _, p1⟩ := hl.out.cell (n - 1) (by omega)
                cases hA'
                have hnn : (L.drop (k + 1)).length = n - 1 - k := by rw [List.length_drop]; have := HNL.out; omega
                have GR := q_grant _ _ _ _ _ (L.getD k 0) (L.drop (k + 1)) _ _ wr hq' (by omega)
                have lastE : L.length - 1 = n - 1 := by have := HNL.out; omega
                have AH : ∀ V, Qu V w.heap.size (w.heap.size + 1) w.heap.size 50 x (L.drop (k + 1)) (L.getD k 0) true ((k : Int) + 1) → Calls Try.prog 29 #[.pointer (some ⟨w.heap.size + 1, 0, none⟩), .int .i64 (L.getD (n - 1) 0)] V fun e w' => e = .returned (.tuple #[.int .i64 ((n - 1 - k : Nat) : Int), .bool true]) ∧ Only (fun _ => False) V w' := fun V hV => by
                  by_cases hkn : k = n - 1
                  · have ht : Turn (L.getD k 0) true (L.getD (n - 1) 0) = true := by rw [hkn]; simp [Turn]
                    refine (q_ahead_held _ _ _ _ _ _ _ _ _ (L.getD (n - 1) 0) V hV ht).mono fun e w' h => ⟨?_, by rw [← h.2]; exact Only.refl _ _⟩
                    rw [h.1, show n - 1 - k = 0 by omega]; rfl
                  · have hne := nodup_ne L hnd.out.1 k (n - 1) hkl (by omega) (fun e => hkn e)
                    have ht : Turn (L.getD k 0) true (L.getD (n - 1) 0) = false := by unfold Turn; rw [Bool.true_and]; exact beq_eq_false_iff_ne.2 hne
                    have hx := idx_last L hnd.out.1 (k + 1) (by omega)
                    rw [lastE] at hx
                    refine (q_ahead_yes _ _ _ _ _ _ _ _ _ (L.getD (n - 1) 0) V hV ht (by rw [hx]; omega)).mono fun e w' h => ⟨?_, Only.of_below0 h.2⟩
                    rw [h.1, hx, if_pos rfl, show ((n - 1 - (k + 1) : Nat) : Int) + 1 = ((n - 1 - k : Nat) : Int) by omega]
                generalize L.getD (n - 1) 0 = la at *
                have RE : ∀ V, Qu V w.heap.size (w.heap.size + 1) w.heap.size 50 x (L.drop (k + 1)) (L.getD k 0) true ((k : Int) + 1) → _ := fun V hV => q_release _ _ _ _ _ _ _ _ _ (L.getD k 0) V hV (by simp [Turn])
                generalize L.getD k 0 = a at *
                have HGR := Lib.hid GR
                have HAH := Lib.hid AH
                have HRE := Lib.hid RE
                have s1 : IntKind.i64.wrap ((n : Int) - 1) = ((n - 1 : Nat) : Int) := by rw [IntWalk.i64_in _ (by omega)]; omega
                have s2 : IntKind.i64.wrap (((n - 1 : Nat) : Int) - (k : Int)) = ((n - 1 - k : Nat) : Int) := by rw [IntWalk.i64_in _ (by omega)]; omega
                have j1 : (n - 1 : Nat) < n := by omega
                have j2 : ((n - 1 : Nat) : Int) < (n : Int) := by omega
                have j3 : (0 : Int) ≤ ((n - 1 : Nat) : Int) := by omega
                clear hq' GR AH RE lastE hnn
                go_wp2_with fail
                refine (HGR.out).mono ?_
                rintro e w2 ⟨rfl, q2, o2⟩
                have HQ2 := Lib.hid q2
                have HL2 := Lib.hid (hl.out.step o2 (fun _ _ h => h) (fun _ _ h => h))
                have HB2 := Lib.hid (kb.out.trans (hq.out.below o2))
                have hdis := hl.out.2.2.2.2 _ rfl
                have r0 : w2.cell? ⟨b, off + k, none⟩ = some (.int .i64 a) := (World.cell?_of_block (o2.block b hbl (fun h => hdis.2 h))).trans p0
                have r1 : w2.cell? ⟨b, off + (n - 1), none⟩ = some (.int .i64 la) := (World.cell?_of_block (o2.block b hbl (fun h => hdis.2 h))).trans p1
                clear q2 o2 p0 p1 hdis
                go_wp2_with fail
                refine (q_grant_held _ _ _ _ _ _ _ _ w2 HQ2.out).mono ?_
                rintro e wq ⟨rfl, rfl⟩
                go_wp2_with fail
                refine (HAH.out w2 HQ2.out).mono ?_
                rintro e w3 ⟨rfl, o3⟩
                have HQ3 := Lib.hid (HQ2.out.still o3)
                have HL3 := Lib.hid (HL2.out.still o3)
                have HB3 := Lib.hid (HB2.out.trans (o3.below HB2.out.size (fun _ _ h => h)))
                have t0 : w3.cell? ⟨b, off + k, none⟩ = some (.int .i64 a) := (World.cell?_of_block (o3.block b (HL2.out.2.2.2.2 _ rfl).1 (fun h => h))).trans r0
                clear o3 r0 r1
                go_wp2_with fail
                refine (HRE.out w3 HQ3.out).mono ?_
                rintro e w4 ⟨rfl, q4, o4⟩
                have o4' : Only (QB (w.heap.size + 1) w.heap.size x) w3 w4 := o4.mono (fun i _ h => .inl h)
                have HQ4 := Lib.hid q4
                have HL4 := Lib.hid (HL3.out.step o4' (fun _ _ h => h) (fun _ _ h => h))
                have HB4 := Lib.hid (HB3.out.trans (HQ3.out.below o4'))
                clear q4 o4 o4' t0
                go_wp2_with fail
                go_roundg (n - (k + 1))
                case measure => omega
                case rel => exact ⟨k + 1, rfl, by omega, by go_num, HQ4, HL4, HB4⟩
              · obtain rfl : k = n := by omega
                have hq' := hq.out
                rw [List.drop_eq_nil_of_le (by have := HNL.out; omega)] at hq'
                have HQ := Lib.hid hq'
                clear hq' hq
                go_wp2_with fail
                refine (q_grant_none _ _ _ _ _ _ _ wr HQ.out).mono ?_
                rintro e wq ⟨rfl, rfl⟩
                go_wp2_with fail
                refine (q_turns _ _ _ _ _ _ _ _ _ wr HQ.out).mono ?_
                rintro e wq ⟨rfl, rfl⟩
                go_wp2_with fail
                refine (lives33 _).mono ?_
                rintro e w9 ⟨rfl, hb9⟩
                go_wp2_with fail
                go_ret
                exact ⟨rfl, kb.out.trans (hb9.mono kb.out.size)⟩
        · obtain rfl : t = n1 := by omega
          go_wp2_with fail
          have hnL := hl.out.1
          have hn4 : n ≤ 40 := by have := hnd.out.2; omega
          have HNL := Lib.hid hnL
          clear hnL
          go_loopg [12] n (fun q i wz => ∃ k : Nat, q = n - k ∧ k ≤ n ∧ i = .int .i64 k ∧ Hid (Qu wz w.heap.size (w.heap.size + 1) w.heap.size 50 x (L.drop k) 0 false k) ∧ Hid (Lq wz A n c L (QB (w.heap.size + 1) w.heap.size x)) ∧ Hid (Below w.heap.size w wz))
          case atStart => exact ⟨0, rfl, by omega, rfl, hq, hl, kb⟩
          case round =>
            clear hq hl kb
            obtain ⟨k, rfl, hk, rfl, hq, hl, kb⟩ := hrel
            by_cases hlt : k < n
            · have hkl : k < L.length := by have := HNL.out; omega
              have hq' := hq.out
              rw [drop_at L k hkl] at hq'
              obtain ⟨b, off, rfl, hbl, p0⟩ := hl.out.cell k hlt
              have p1 := (hl.out.2.2.2.1)
              obtain ⟨b', off', hA', _, p1⟩ := hl.out.cell (n - 1) (by omega)
              cases hA'
              have hnn : (L.drop (k + 1)).length = n - 1 - k := by rw [List.length_drop]; have := HNL.out; omega
              have GR := q_grant _ _ _ _ _ (L.getD k 0) (L.drop (k + 1)) _ _ wr hq' (by omega)
              have lastE : L.length - 1 = n - 1 := by have := HNL.out; omega
              have AH : ∀ V, Qu V w.heap.size (w.heap.size + 1) w.heap.size 50 x (L.drop (k + 1)) (L.getD k 0) true ((k : Int) + 1) → Calls Try.prog 29 #[.pointer (some ⟨w.heap.size + 1, 0, none⟩), .int .i64 (L.getD (n - 1) 0)] V fun e w' => e = .returned (.tuple #[.int .i64 ((n - 1 - k : Nat) : Int), .bool true]) ∧ Only (fun _ => False) V w' := fun V hV => by
                by_cases hkn : k = n - 1
                · have ht : Turn (L.getD k 0) true (L.getD (n - 1) 0) = true := by rw [hkn]; simp [Turn]
                  refine (q_ahead_held _ _ _ _ _ _ _ _ _ (L.getD (n - 1) 0) V hV ht).mono fun e w' h => ⟨?_, by rw [← h.2]; exact Only.refl _ _⟩
                  rw [h.1, show n - 1 - k = 0 by omega]; rfl
                · have hne := nodup_ne L hnd.out.1 k (n - 1) hkl (by omega) (fun e => hkn e)
                  have ht : Turn (L.getD k 0) true (L.getD (n - 1) 0) = false := by unfold Turn; rw [Bool.true_and]; exact beq_eq_false_iff_ne.2 hne
                  have hx := idx_last L hnd.out.1 (k + 1) (by omega)
                  rw [lastE] at hx
                  refine (q_ahead_yes _ _ _ _ _ _ _ _ _ (L.getD (n - 1) 0) V hV ht (by rw [hx]; omega)).mono fun e w' h => ⟨?_, Only.of_below0 h.2⟩
                  rw [h.1, hx, if_pos rfl, show ((n - 1 - (k + 1) : Nat) : Int) + 1 = ((n - 1 - k : Nat) : Int) by omega]
              generalize L.getD (n - 1) 0 = la at *
              have RE : ∀ V, Qu V w.heap.size (w.heap.size + 1) w.heap.size 50 x (L.drop (k + 1)) (L.getD k 0) true ((k : Int) + 1) → _ := fun V hV => q_release _ _ _ _ _ _ _ _ _ (L.getD k 0) V hV (by simp [Turn])
              generalize L.getD k 0 = a at *
              have HGR := Lib.hid GR
              have HAH := Lib.hid AH
              have HRE := Lib.hid RE
              have s1 : IntKind.i64.wrap ((n : Int) - 1) = ((n - 1 : Nat) : Int) := by rw [IntWalk.i64_in _ (by omega)]; omega
              have s2 : IntKind.i64.wrap (((n - 1 : Nat) : Int) - (k : Int)) = ((n - 1 - k : Nat) : Int) := by rw [IntWalk.i64_in _ (by omega)]; omega
              have j1 : (n - 1 : Nat) < n := by omega
              have j2 : ((n - 1 : Nat) : Int) < (n : Int) := by omega
              have j3 : (0 : Int) ≤ ((n - 1 : Nat) : Int) := by omega
              clear hq' GR AH RE lastE hnn
              go_wp2_with fail
              refine (HGR.out).mono ?_
              rintro e w2 ⟨rfl, q2, o2⟩
              have HQ2 := Lib.hid q2
              have HL2 := Lib.hid (hl.out.step o2 (fun _ _ h => h) (fun _ _ h => h))
              have HB2 := Lib.hid (kb.out.trans (hq.out.below o2))
              have hdis := hl.out.2.2.2.2 _ rfl
              have r0 : w2.cell? ⟨b, off + k, none⟩ = some (.int .i64 a) := (World.cell?_of_block (o2.block b hbl (fun h => hdis.2 h))).trans p0
              have r1 : w2.cell? ⟨b, off + (n - 1), none⟩ = some (.int .i64 la) := (World.cell?_of_block (o2.block b hbl (fun h => hdis.2 h))).trans p1
              clear q2 o2 p0 p1 hdis
              go_wp2_with fail
              refine (q_grant_held _ _ _ _ _ _ _ _ w2 HQ2.out).mono ?_
              rintro e wq ⟨rfl, rfl⟩
              go_wp2_with fail
              refine (HAH.out w2 HQ2.out).mono ?_
              rintro e w3 ⟨rfl, o3⟩
              have HQ3 := Lib.hid (HQ2.out.still o3)
              have HL3 := Lib.hid (HL2.out.still o3)
              have HB3 := Lib.hid (HB2.out.trans (o3.below HB2.out.size (fun _ _ h => h)))
              have t0 : w3.cell? ⟨b, off + k, none⟩ = some (.int .i64 a) := (World.cell?_of_block (o3.block b (HL2.out.2.2.2.2 _ rfl).1 (fun h => h))).trans r0
              clear o3 r0 r1
              go_wp2_with fail
              refine (HRE.out w3 HQ3.out).mono ?_
              rintro e w4 ⟨rfl, q4, o4⟩
              have o4' : Only (QB (w.heap.size + 1) w.heap.size x) w3 w4 := o4.mono (fun i _ h => .inl h)
              have HQ4 := Lib.hid q4
              have HL4 := Lib.hid (HL3.out.step o4' (fun _ _ h => h) (fun _ _ h => h))
              have HB4 := Lib.hid (HB3.out.trans (HQ3.out.below o4'))
              clear q4 o4 o4' t0
              go_wp2_with fail
              go_roundg (n - (k + 1))
              case measure => omega
              case rel => exact ⟨k + 1, rfl, by omega, by go_num, HQ4, HL4, HB4⟩
            · obtain rfl : k = n := by omega
              have hq' := hq.out
              rw [List.drop_eq_nil_of_le (by have := HNL.out; omega)] at hq'
              have HQ := Lib.hid hq'
              clear hq' hq
              go_wp2_with fail
              refine (q_grant_none _ _ _ _ _ _ _ wr HQ.out).mono ?_
              rintro e wq ⟨rfl, rfl⟩
              go_wp2_with fail
              refine (q_turns _ _ _ _ _ _ _ _ _ wr HQ.out).mono ?_
              rintro e wq ⟨rfl, rfl⟩
              go_wp2_with fail
              refine (lives33 _).mono ?_
              rintro e w9 ⟨rfl, hb9⟩
              go_wp2_with fail
              go_ret
              exact ⟨rfl, kb.out.trans (hb9.mono kb.out.size)⟩
set_option maxRecDepth 100000 in
theorem lifted (os : Os) (started : os.Started) (H : Type) (enc : TypeId × Value → H) :
    ReturnsInHanded {} Try.checked os 7 .any (Rows.queueOrderSpec.pre6 enc Try.prog Try.f7 Rows.queueOrderRow.domain false) (Rows.queueOrderSpec.post enc Try.prog Try.f7 false true false false) := by
  refine returnsInHanded_of_change (C := Try.checked) own started (by kernel_rfl) Try.func7
    (ChangeSpec.witness6 (enc := enc) (C := Try.checked) false ⟨#[], #[.int .u8 0, .slice none 0 0], []⟩ 8 (by kernel_rfl) (by kernel_rfl) (by kernel_rfl) (by kernel_rfl)) ?_
  intro W base args ds gs before hval0 hW hcnd _
  have hval : ∀ (j : Nat) t v, Try.f7.params[j]? = some t → args[j]? = some v → Value.okWide Try.prog W .any base t v := hval0
  have hW' := hW
  obtain ⟨p, q, hA0, hV, rfl, hfz, hnd⟩ := hW
  have hA : DataW.TrodAll enc Try.prog W 0 (fun _ => true) true Try.f7.params.toList args.toList ds p := hA0
  rw [Try.params7] at hA hval
  obtain ⟨v0, vs0, d0, ds0, p0, q0, hargs, rfl, rfl, h0, rr0⟩ := trodAll_cons hA
  obtain ⟨v1, vs1, d1, ds1, p1, q1, rfl, rfl, rfl, h1, rr1⟩ := trodAll_cons rr0
  obtain ⟨rfl, rfl, rfl⟩ := trodAll_nil rr1
  obtain rfl : args = #[v0, v1] := by cases args; simp_all
  obtain ⟨rfl, rfl⟩ := trodVars_none hV
  have k0 := h0
  have lt0 : ∀ x ∈ p0, x.block < W.heap.size := by obtain ⟨m, hm⟩ := k0; exact DataW.trod_lt m _ _ _ hm
  obtain ⟨a0, rfl, _, _, w0⟩ := open_int Try.underlying5 (hval 0 5 v0 rfl rfl) h0
  have k1 := h1
  have lt1 : ∀ x ∈ p1, x.block < W.heap.size := by obtain ⟨m, hm⟩ := k1; exact DataW.trod_lt m _ _ _ hm
  obtain ⟨A1, n1, c1, rfl⟩ := okWide_slice Try.underlying56 (hval 1 56 v1 rfl rfl)
  obtain ⟨z1, r1, o1, m1⟩ := kints_open Try.underlying56 Try.underlying5 (by kernel_rfl) h1
  clear hA0 hval0
  refine (walk a0 A1 n1 c1 z1 W w0 r1 o1 m1).mono fun e W' ⟨he, bel⟩ => ?_
  subst he
  exact ⟨_, rfl, _, _, _, [], _, [], hW', trodAll_mk1 (shut_bool Try.underlying4 _), (trodAll_cons_mk (Below.trod laidOut (by kernel_rfl) (of_decide_eq_true (by kernel_rfl)) k0 bel lt0) (trodAll_cons_mk (Below.trod laidOut (by kernel_rfl) (of_decide_eq_true (by kernel_rfl)) k1 bel lt1) trodAll_mk0)), rfl, bel.frame _, fun h => by cases h⟩

theorem over : Rows.queueOrderRow.holds Try.pinned (OpenSpec.ofChange Rows.queueOrderSpec) :=
  OpenClaim.holds_of_wide 7 Try.f7 rfl rfl rfl rfl rfl rfl rfl ⟨rfl, rfl, rfl, rfl, rfl⟩ rfl rfl rfl rfl rfl (by kernel_rfl) Try.func7 (by kernel_rfl)
    (of_decide_eq_true (by kernel_rfl)) (by unfold Func.isWrapper; first | (rw [if_pos (by decide +kernel)]; kernel_rfl) | (rw [if_neg (by decide +kernel)]; exact ⟨rfl, rfl⟩))
    (fun os started H enc _ => lifted os started H enc)

theorem proved : Rows.QueueOrderSaid := over
#print axioms proved
end Go.Proofs.Ytmomafhpbbmiaaa.queueOrder
