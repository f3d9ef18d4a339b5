/- Each operation does to the world what the evaluator says: literals, slices, maps. -/
import Derived.Test.YtgooihjcaoajnaaGreatEf
set_option linter.unusedVariables false
set_option linter.unusedSimpArgs false
namespace Go.Proofs.YtgooihjcaoajnaaGreat.Ev
open Go Go.RowKit

section
variable {P : Program} {E : En} {R : Rd} {n : Nat} {w : World}
theorem fold_over (off : Nat) : ∀ (l : List Value) (k : Nat) (cells : Array Value), off + k + l.length ≤ cells.size →
    (l.zipIdx k).foldl (fun (cs : Array Value) (x : Value × Nat) => cs.setIfInBounds (off + x.2) x.1) cells = (cells.toList.take (off + k) ++ l ++ cells.toList.drop (off + k + l.length)).toArray
  | [], k, cells, _ => by simp
  | v :: l, k, cells, h => by
    simp only [List.length_cons] at h
    simp only [List.zipIdx_cons, List.foldl_cons]
    rw [fold_over off l (k + 1) _ (by simp; omega)]
    congr 1
    have e := list_seg_step cells.toList (off + k) v l (by simp; omega)
    simpa [Array.toList_setIfInBounds, Nat.add_assoc, Nat.add_comm] using e
theorem fill_ok {p q : Nat → Option (Nat × Nat)} (hpq : ∀ i r, p i = some r → q i = some r) (E : En) : ∀ {ps : List (Nat × AV)} {cells cs : List AV}, fillA p cells ps = some cs →
    Instr.fill q (cells.map (den E)).toArray (ps.map fun x => (x.1, den E x.2)) = some (cs.map (den E)).toArray ∧ cs.length = cells.length
  | [], cells, cs, h => by simp only [fillA, Option.some.injEq] at h; subst h; exact ⟨rfl, rfl⟩
  | (i, v) :: ps, cells, cs, h => by
    simp only [fillA] at h
    split at h
    · cases h
    · rename_i off size hp
      split at h
      · rename_i h1
        split at h
        · rename_i h2
          have h1 := Nat.eq_of_beq_eq_true h1
          have h2 := Nat.le_of_ble_eq_true h2
          have ih := fill_ok hpq E h
          refine ⟨?_, by rw [ih.2, over_len _ _ _ (by omega)]⟩
          simp only [List.map_cons, Instr.fill, hpq i _ hp]
          have c1 : ((den E v).cells.size ≠ size || off + (den E v).cells.size > ((cells.map (den E)).toArray).size) = false := by
            rw [den_cells]; simp [h1]; omega
          rw [c1]
          simp only [Bool.false_eq_true, if_false]
          rw [← ih.1]
          congr 1
          have := fold_over off (v.cells.map (den E)) 0 (cells.map (den E)).toArray (by simp; omega)
          rw [den_cells, ← Array.foldl_toList, Array.toList_zipIdx]
          simp only [Nat.add_zero] at this
          rw [this]
          have e := over_map (den E) cells off v.cells [] (by omega)
          simp only [List.append_nil] at e
          rw [e]
        · cases h
      · cases h
theorem fill_bd {p : Nat → Option (Nat × Nat)} : ∀ {ps : List (Nat × AV)} {cells cs : List AV}, fillA p cells ps = some cs → (∀ v ∈ cells, AV.bd n v) → (∀ x ∈ ps, AV.bd n x.2) → ∀ v ∈ cs, AV.bd n v
  | [], cells, cs, h, hc, _ => by simp only [fillA, Option.some.injEq] at h; subst h; exact hc
  | (i, v) :: ps, cells, cs, h, hc, hp => by
    simp only [fillA] at h
    split at h
    · cases h
    · split at h
      · split at h
        · exact fill_bd h (over_bd hc (cells_bd (hp (i, v) (by simp)))) (fun x hx => hp x (by simp [hx]))
        · cases h
      · cases h
section ops
variable {ev : Operand → Option AV} {ρ : Operand → Value}
theorem evps_ok (hE : EvOk E n ev ρ) : ∀ {l : List (Nat × Operand)} {r : List (Nat × AV)}, evps ev l = some r → (l.map fun x => (x.1, ρ x.2)) = (r.map fun x => (x.1, den E x.2)) ∧ ∀ x ∈ r, AV.bd n x.2
  | [], r, h => by simp only [evps, Option.some.injEq] at h; subst h; exact ⟨rfl, by simp⟩
  | (i, x) :: l, r, h => by
    simp only [evps] at h
    split at h
    · rename_i a ha
      split at h
      · rename_i r' hr
        simp only [Option.some.injEq] at h; subst h
        have h1 := hE _ _ ha
        have h2 := evps_ok hE hr
        refine ⟨by simp [h1.1, h2.1], ?_⟩
        intro v hv
        rcases List.mem_cons.1 hv with rfl | hv
        · exact h1.2
        · exact h2.2 v hv
      · cases h
    · cases h
theorem places_ok : ∀ {fs : List Field}, allB (fun f : Field => match sizeT P f.type with | some _ => true | none => false) fs = true →
    ∃ places, fs.mapM (fun f => (P.info? f.type).map fun i => (f.offset, i.size)) = some places ∧ ∀ (i : Nat) (f : Field), fs[i]? = some f → ∀ m, sizeT P f.type = some m → places[i]? = some (f.offset, m)
  | [], _ => ⟨[], by simp, by simp⟩
  | f :: fs, h => by
    simp only [allB] at h
    split at h
    · rename_i hf
      obtain ⟨pl, h1, h2⟩ := places_ok (fs := fs) h
      split at hf
      · rename_i m hm
        obtain ⟨i, hi, hz⟩ := size_info hm
        refine ⟨(f.offset, i.size) :: pl, by simp [hi, h1], ?_⟩
        intro j g hg m' hm'
        cases j with
        | zero =>
          simp only [List.getElem?_cons_zero, Option.some.injEq] at hg
          subst hg
          rw [hm] at hm'
          simp only [Option.some.injEq] at hm'
          simp [hz, hm']
        | succ j => simpa using h2 j g (by simpa using hg) m' hm'
      · cases hf
    · cases h
theorem build_ok {t : TypeId} {ps : Array (Nat × Operand)} {r : AR} {o : Oper} (ho : o.op = .build t ps) (hR : Rep P E R n w) (hE : EvOk E n ev ρ) (h : aBuild P ev t ps = some r) : ROk P E R n w r ((execOp ρ o).run P w) := by
  unfold aBuild at h
  split at h
  · rename_i z hz
    obtain ⟨it, hit, hzero, hzb⟩ := zero_info hz E n
    split at h
    · rename_i l hl
      have hl' := evps_ok hE hl
      have hpar : (ps.map fun (i, x) => (i, ρ x)).toList = l.map fun x => (x.1, den E x.2) := by
        rw [Array.toList_map]; exact hl'.1
      split at h
      · rename_i fs hu
        split at h
        · rename_i hall
          split at h
          · rename_i cs hcs
            simp only [Option.some.injEq] at h; subst h
            obtain ⟨pl, hp1, hp2⟩ := places_ok (P := P) hall
            refine .pure hR ?_ (bdL_iff.2 (fill_bd hcs (cells_bd hzb) hl'.2))
            simp only [execOp, ho]
            refine run_v_ok ?_
            simp only [den, denL_eq]
            refine run_build w t _ _ ?_
            unfold Program.built
            simp only [hit, hu, hzero, hp1, hpar]
            have := (fill_ok (p := placeS P fs) (q := (pl.toArray[·]?)) (fun i r hr => by
              unfold placeS at hr
              split at hr
              · rename_i f hf
                split at hr
                · rename_i m hm
                  simp only [Option.some.injEq] at hr
                  subst hr
                  have := hp2 i f (by simpa using hf) m hm
                  simpa using this
                · cases hr
              · cases hr) E hcs).1
            rw [den_cells]
            exact this
          · cases h
        · cases h
      · rename_i m e hu
        split at h
        · rename_i sz hsz
          obtain ⟨ie, hie, hiz⟩ := size_info hsz
          split at h
          · rename_i cs hcs
            simp only [Option.some.injEq] at h; subst h
            refine .pure hR ?_ (bdL_iff.2 (fill_bd hcs (cells_bd hzb) hl'.2))
            simp only [execOp, ho]
            refine run_v_ok ?_
            simp only [den, denL_eq]
            refine run_build w t _ _ ?_
            unfold Program.built
            simp only [hit, hu, hzero, hie, hpar]
            rw [den_cells]
            exact (fill_ok (fun i r hr => by rw [hiz]; exact hr) E hcs).1
          · cases h
        · cases h
      · cases h
    · cases h
  · cases h
theorem rep_get {l : List AV} {z : Nat} (hl : l.length = z) : ∀ (m j : Nat), j < m * z → (repA l m)[j]? = l[j % z]?
  | 0, j, h => by omega
  | m + 1, j, h => by
    simp only [repA]
    rw [Nat.add_mul, Nat.one_mul] at h
    rcases Nat.lt_or_ge j z with h1 | h1
    · rw [List.getElem?_append_left (by omega), Nat.mod_eq_of_lt h1]
    · rw [List.getElem?_append_right (by omega), hl, rep_get hl m (j - z) (by omega)]
      congr 1
      exact (Nat.mod_eq_sub_mod h1).symm
theorem rep_len {l : List AV} {z : Nat} (hl : l.length = z) : ∀ m, (repA l m).length = m * z
  | 0 => by simp [repA]
  | m + 1 => by simp only [repA, List.length_append, rep_len hl m, hl]; rw [Nat.add_mul]; omega
theorem rep_mem {l : List AV} : ∀ {m} {x : AV}, x ∈ repA l m → x ∈ l
  | 0, x, h => by simp [repA] at h
  | m + 1, x, h => by
    simp only [repA, List.mem_append] at h
    rcases h with h | h
    · exact h
    · exact rep_mem h
theorem rep_range (E : En) {v : AV} {z : Nat} (hl : v.cells.length = z) (m : Nat) : (Array.range (m * z)).map (fun i => (den E v).cells[i % (den E v).cells.size]!) = ((repA v.cells m).map (den E)).toArray := by
  rw [den_cells]
  apply Array.ext'
  apply List.ext_getElem?
  intro j
  simp only [Array.toList_map, Array.toList_range, List.getElem?_map, List.size_toArray, List.length_map, hl]
  rcases Nat.lt_or_ge j (m * z) with h | h
  · have hz : 0 < z := by
      rcases Nat.eq_zero_or_pos z with e | e
      · rw [e, Nat.mul_zero] at h; omega
      · exact e
    have hm : j % z < z := Nat.mod_lt _ hz
    rw [rep_get hl m j h, List.getElem?_range h]
    simp [getElem!_def, hm, hl]
  · rw [List.getElem?_eq_none (by simpa using h), List.getElem?_eq_none (by rw [rep_len hl]; exact h)]
    rfl
theorem bs_ok {t : TypeId} {len : Nat} {ps : Array (Nat × Operand)} {r : AR} {o : Oper} (ho : o.op = .buildSlice t len ps) (hR : Rep P E R n w) (hE : EvOk E n ev ρ) (h : aBuildSlice P ev n t len ps = some r) : ROk P E R n w r ((execOp ρ o).run P w) := by
  unfold aBuildSlice at h
  split at h
  · rename_i e z hez
    obtain ⟨hu, hz⟩ := elemZ_ok hez
    obtain ⟨ie, hie, hiz⟩ := size_info hz
    split at h
    · split at h
      · rename_i hp
        simp only [Option.some.injEq] at h; subst h
        refine ROk.mk_new (w' := w.alloc (.cells #[] e)) (V := .slice (some ⟨w.heap.size, 0, none⟩) 0 0) [] 0 hR ?_ rfl rfl rfl rfl (by simp [den]) (by simp) (fun _ => rfl) (fun h => by cases h) (by simp [AV.bd]) (fun _ => rfl) (fun _ => rfl)
        simp only [execOp, ho]
        refine run_v_ok ?_
        have e0 : Array.range 0 = #[] := rfl
        simp [Instr.buildSlice, run_underlying hu, sizeOf, typeInfo, hie, hp, Instr.fill, newRow, e0]
      · cases h
    · rename_i m
      split at h
      · cases h
      · rename_i zz0
        split at h
        · rename_i zz hzz
          obtain ⟨it, hit, hzero, hzb⟩ := zero_info hzz E n
          have : it = ie := by rw [hit] at hie; exact Option.some.inj hie
          subst this
          split at h
          · rename_i hzl
            have hzl := Nat.eq_of_beq_eq_true hzl
            split at h
            · rename_i l hl
              have hl' := evps_ok hE hl
              have hpar : (ps.map fun (i, x) => (i, ρ x)).toList = l.map fun x => (x.1, den E x.2) := by
                rw [Array.toList_map]; exact hl'.1
              split at h
              · rename_i cs hcs
                split at h
                · rename_i hsm
                  have hsm := Nat.le_of_ble_eq_true hsm
                  simp only [Option.some.injEq] at h; subst h
                  refine ROk.mk_new (w' := w.alloc (.cells (cs.map (den E)).toArray e)) (V := .slice (some ⟨w.heap.size, 0, none⟩) (m + 1) (m + 1)) [] 0 hR ?_ (by rw [List.append_nil]; rfl) rfl rfl rfl (by simp [den])
                    (fill_bd hcs (fun v hv => cells_bd hzb v (rep_mem hv)) hl'.2) (fun _ => rfl) (fun h => by cases h) (by simp [AV.bd]) (fun _ => rfl) (fun _ => rfl)
                  simp only [execOp, ho]
                  refine run_v_ok ?_
                  refine run_buildSlice w t e (m + 1) _ _ it (den E zz) hu hie hzero (by rw [hiz]; show ¬ ((m + 1) * (zz0 + 1) > 2 ^ 24); omega) (by rw [hiz]; exact Nat.ne_of_gt (Nat.mul_pos (Nat.succ_pos _) (Nat.succ_pos _))) ?_
                  rw [hiz, rep_range E hzl, hpar]
                  exact (fill_ok (fun i r hr => hr) E hcs).1
                · cases h
              · cases h
            · cases h
          · cases h
        · cases h
  · cases h
theorem ms_ok {t : TypeId} {l c : Operand} {r : AR} {o : Oper} (ho : o.op = .makeSlice t l c) (hR : Rep P E R n w) (hE : EvOk E n ev ρ) (h : aMakeSlice P ev n t l c = some r) : ROk P E R n w r ((execOp ρ o).run P w) := by
  unfold aMakeSlice at h
  have nat : ∀ {x : Operand} {m : Nat}, natOf (ev x) = some m → ∃ k, ρ x = .int k (m : Int) := by
    intro x m hx
    unfold natOf at hx
    split at hx
    · rename_i k q hq
      simp only [Option.some.injEq] at hx; subst hx
      exact ⟨k, (hE _ _ hq).1⟩
    · cases hx
  split at h
  · rename_i a ha
    split at h
    · rename_i m hm
      split at h
      · rename_i e z hez
        obtain ⟨hu, hz⟩ := elemZ_ok hez
        obtain ⟨ie, hie, hiz⟩ := size_info hz
        split at h
        · rename_i zz hzz
          obtain ⟨it, hit, hzero, hzb⟩ := zero_info hzz E n
          have : it = ie := by rw [hit] at hie; exact Option.some.inj hie
          subst this
          split at h
          · rename_i hzl
            have hzl := Nat.eq_of_beq_eq_true hzl
            split at h
            · rename_i hle
              split at h
              · rename_i h64
                split at h
                · rename_i hby
                  split at h
                  · rename_i hmz
                    have hle := Nat.le_of_ble_eq_true hle
                    have h64 := Nat.le_of_ble_eq_true h64
                    have hby := Nat.le_of_ble_eq_true hby
                    have hmz := Nat.le_of_ble_eq_true hmz
                    simp only [Option.some.injEq] at h; subst h
                    obtain ⟨k1, e1⟩ := nat ha
                    obtain ⟨k2, e2⟩ := nat hm
                    refine ROk.mk_new (w' := w.alloc (.cells ((repA zz.cells m).map (den E)).toArray e)) (V := .slice (some ⟨w.heap.size, 0, none⟩) a m) [] 0 hR ?_ (by rw [List.append_nil]; rfl) rfl rfl rfl (by simp [den])
                      (fun v hv => cells_bd hzb v (rep_mem hv)) (fun _ => rfl) (fun h => by cases h) (by simp [AV.bd]) (fun _ => rfl) (fun _ => rfl)
                    simp only [execOp, ho, e1, e2]
                    refine run_v_ok ?_
                    have hb2 : P.bytesOf e = it.bytes := by unfold Program.bytesOf; rw [hie]; rfl
                    have hb3 : (it.bytes : Int) * (m : Int) ≤ 281474976710656 := by
                      have : it.bytes * m ≤ 65536 * 65536 := Nat.mul_le_mul (by omega) h64
                      have : ((it.bytes * m : Nat) : Int) ≤ 281474976710656 := by omega
                      rwa [Int.natCast_mul] at this
                    have := run_makeSlice (P := P) w t e it (den E zz) hu hie hzero k1 k2 a m (by omega) (by omega) (by rw [hiz, Int.toNat_natCast]; omega) hb3 (by omega)
                    rw [this]
                    simp only [Int.toNat_natCast, hiz, madeCells]
                    rw [rep_range E hzl]
                  · cases h
                · cases h
              · cases h
            · cases h
          · cases h
        · cases h
      · cases h
    · cases h
  · cases h
theorem nat_ok (hE : EvOk E n ev ρ) {x : Operand} {m : Nat} (hx : natOf (ev x) = some m) : ∃ k, ρ x = .int k (m : Int) := by
  unfold natOf at hx
  split at hx
  · rename_i k q hq
    simp only [Option.some.injEq] at hx; subst hx
    exact ⟨k, (hE _ _ hq).1⟩
  · cases hx
theorem bounds_ok (hE : EvOk E n ev ρ) (b : Bool) {len cap l h : Nat} {lo hi : Option Operand} (h1 : boundA ev lo 0 = some l) (h2 : boundA ev hi len = some h) (hlh : l ≤ h) (hc : h ≤ cap) :
    (Instr.sliceBounds b len cap (lo.map ρ) (hi.map ρ) none).run P w = .ok (l, h, cap) w := by
  have hlow : lo.map ρ = none ∧ l = 0 ∨ ∃ k, lo.map ρ = some (.int k (l : Int)) := by
    cases lo with
    | none => simp only [boundA, Option.some.injEq] at h1; exact .inl ⟨rfl, h1.symm⟩
    | some x => obtain ⟨k, hk⟩ := nat_ok hE (by simpa [boundA] using h1); exact .inr ⟨k, by simp [hk]⟩
  have hhigh : hi.map ρ = none ∧ h = len ∨ ∃ k, hi.map ρ = some (.int k (h : Int)) := by
    cases hi with
    | none => simp only [boundA, Option.some.injEq] at h2; exact .inl ⟨rfl, h2.symm⟩
    | some x => obtain ⟨k, hk⟩ := nat_ok hE (by simpa [boundA] using h2); exact .inr ⟨k, by simp [hk]⟩
  have hb : ∀ k code, (Instr.sliceBound (.int k (h : Int)) cap code).run P w = .ok h w := fun k code => by rw [run_sliceBound w k h cap code (by omega) (by omega)]; simp
  have hl : ∀ k code, (Instr.sliceBound (.int k (l : Int)) h code).run P w = .ok l w := fun k code => by rw [run_sliceBound w k l h code (by omega) (by omega)]; simp
  rcases hlow with ⟨e1, e2⟩ | ⟨k1, e1⟩ <;> rcases hhigh with ⟨e3, e4⟩ | ⟨k3, e3⟩
  · subst e2; subst e4
    rw [e1, e3]
    simp [Instr.sliceBounds]
  · subst e2
    rw [e1, e3]
    simp [Instr.sliceBounds, hb]
  · subst e4
    rw [e1, e3]
    simp [Instr.sliceBounds, hl]
  · rw [e1, e3]
    simp [Instr.sliceBounds, hb, hl]
end ops
end
end Go.Proofs.YtgooihjcaoajnaaGreat.Ev
