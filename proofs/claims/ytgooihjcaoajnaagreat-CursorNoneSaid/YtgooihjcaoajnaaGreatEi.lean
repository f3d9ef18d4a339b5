/- Each operation does to the world what the evaluator says: append, copy, calls; all of them together. -/
import Derived.Test.YtgooihjcaoajnaaGreatEh
set_option linter.unusedVariables false
set_option linter.unusedSimpArgs false
namespace Go.Proofs.YtgooihjcaoajnaaGreat.Ev
open Go Go.RowKit

section
variable {P : Program} {E : En} {R : Rd} {n : Nat} {w : World}
theorem setCells_row {g o : Nat} {t : TypeId} {cs vs : List AV} {rest : List Value} (ho : w.heap[E.ρ g]? = some (.cells (cs.map (den E) ++ rest).toArray t (0, 0)))
    (hl : o + vs.length ≤ (cs.map (den E) ++ rest).length) (h1 : ∀ v ∈ vs, oneA v = true) (P : Program) :
    w.setCells (E.ρ g) o (vs.map (den E)) = w.setRow (E.ρ g) ((cs.map (den E) ++ rest).take o ++ vs.map (den E) ++ (cs.map (den E) ++ rest).drop (o + (vs.map (den E)).length)).toArray ∧
    (∀ j, j < (vs.map (den E)).length → (w.cell? ⟨E.ρ g, o + j, none⟩).isSome = true) ∧ (∀ j, j < (vs.map (den E)).length → w.frozen? ⟨E.ρ g, o + j, none⟩ = false) := by
  have h2 : ∀ v ∈ vs.map (den E), v.oneCell' = true := by
    intro v hv
    obtain ⟨u, hu, rfl⟩ := List.mem_map.1 hv
    exact one_ok (h1 u hu) E
  have c1 : ∀ j, j < (vs.map (den E)).length → (w.cell? ⟨E.ρ g, o + j, none⟩).isSome = true := by
    intro j hj
    simp only [List.length_map] at hj
    simp only [World.cell?, ho]
    rw [if_neg (by simp), List.getElem?_toArray, List.getElem?_eq_getElem (by omega)]
    rfl
  have c2 : ∀ j, j < (vs.map (den E)).length → w.frozen? ⟨E.ρ g, o + j, none⟩ = false := by
    intro j hj
    simp [World.frozen?, ho]
  refine ⟨?_, c1, c2⟩
  have a := run_storeCells_at (P := P) (E.ρ g) o t (vs.map (den E)) 0 _ w ho (by simpa using hl) h2
  have b := run_storeCells_cells (P := P) (E.ρ g) o (vs.map (den E)) 0 w (by simpa using c1) (by simpa using c2) h2
  simp only [Nat.add_zero] at a b
  rw [a] at b
  injection b with b1 b2
  exact b2.symm
/-- what a second argument of append or copy holds -/
theorem row_ok {x : AV} {z k : Nat} {cs : List AV} (hR : Rep P E R n w) (h : rowA R x z k = some cs) (hk : ∀ m, lenA x = some m → k ≤ m) :
    (∀ v : Bool, (Builtin.firstCells z k (den E x)).run P (if v then w.drew else w) = .ok ((cs.map (den E)).toArray) (if v then w.drew else w)) ∧ cs.length = k * z ∧ ∀ u ∈ cs, AV.bd n u := by
  unfold rowA at h
  split at h
  · split at h
    · simp only [Option.some.injEq] at h; subst h
      refine ⟨fun v => by cases v <;> simp [den, Builtin.firstCells], by simp, by simp⟩
    · cases h
  · rename_i g o len cap op
    split at h
    rotate_left
    · split at h
      · simp only [Option.some.injEq] at h; subst h
        refine ⟨fun v => by cases v <;> simp [den, Builtin.firstCells] <;> rfl, by simp, by simp⟩
      · cases h
    rename_i hok
    rw [den_sl hok]
    split at h
    · rename_i tt cs' oo hg
      split at h
      · rename_i hl
        have hl := Nat.le_of_ble_eq_true hl
        simp only [Option.some.injEq] at h; subst h
        obtain ⟨rest, hob, -⟩ := obj_cells hR hg
        have hlen : ((cs'.drop o).take (k * z)).length = k * z := by simp; omega
        have hcell : ∀ j v, (((cs'.drop o).take (k * z)).map (den E))[j]? = some v → w.cell? ((⟨E.ρ g, o, none⟩ : Addr).add j) = some v := by
          intro j v hj
          refine cell_of hob ?_
          have hj' : j < k * z := by have := (List.getElem?_eq_some_iff.1 hj).1; simp at this; omega
          rw [map_cut, List.getElem?_take_of_lt hj', List.getElem?_drop] at hj
          rw [List.getElem?_append_left (by simp; omega)]
          exact hj
        refine ⟨?_, hlen, fun u hu => (hR.bd g _ hg).2 u (mem_take_drop hu)⟩
        intro v
        cases v
        · exact run_firstCells_some w z k _ _ _ _ (by simpa using hlen) hcell
        · exact run_firstCells_some w.drew z k _ _ _ _ (by simpa using hlen) (by simpa using hcell)
      · cases h
    · cases h
  · cases h
theorem lenA_ok {x : AV} {m : Nat} (h : lenA x = some m) (w : World) : (Builtin.lenOf (den E x)).run P w = .ok m w := by
  unfold lenA at h
  split at h
  · simp only [Option.some.injEq] at h; subst h; rfl
  · simp only [Option.some.injEq] at h; subst h; rfl
  · simp only [Option.some.injEq] at h; subst h; rfl
  · cases h
theorem grown_ge (w : World) (need old : Nat) (e : TypeId) : need ≤ grownCap w need old e := by
  show need ≤ need + w.tape w.drawn (.appendCap need old e) % (2 ^ 63 - need)
  exact Nat.le_add_right _ _
theorem zeroCells_len (z : Array Value) (k : Nat) : (Builtin.zeroCells z k).size = k * z.size := by simp [Builtin.zeroCells]
section ops
variable {ev : Operand → Option AV} {ρ : Operand → Value}
/-- a new row, by append -/
theorem append_new {t u e ty : TypeId} {z : Nat} {zz : AV} {it : TypeInfo} {olds new : List AV} {len k cap : Nat} {base : Option Addr} {x : Value} (hR : Rep P E R n w)
    (hu : P.underlying t = some (.slice e)) (hit : P.info? e = some it) (hz : it.size = z) (hzero : it.zero = some (den E zz)) (hzl : zz.cells.length = z) (hz0 : 0 < z)
    (hby : it.bytes ≤ 65536) (hsrc : Src P it.size u x k (new.map (den E)) w)
    (hold : (Builtin.firstCells it.size len (.slice base len cap)).run P w.drew = .ok (olds.map (den E)).toArray w.drew) (holen : olds.length = len * z) (hnlen : new.length = k * z)
    (hg : cap < len + k) (hsm : len + k ≤ 1000000) (hob : ∀ v ∈ olds, AV.bd n v) (hnb : ∀ v ∈ new, AV.bd n v) :
    ROk P E R n w (.val (.sl n 0 (len + k) 0 true) (.new (.cells e (olds ++ new) true))) ((do pure (Next.value (← Builtin.append_ #[t, u] ty #[.slice base len cap, x])) : Sem Next).run P w) := by
  have hfit : Builtin.nextslicecap (len + k) cap * it.bytes ≤ 281474976710656 := by
    have h1 := nextslicecap_le (need := len + k) (old := cap) hg
    have h2 : Builtin.nextslicecap (len + k) cap * it.bytes ≤ 2000000 * 65536 := Nat.mul_le_mul (by omega) hby
    omega
  have hrun := run_append_grow_src (P := P) w t u ty e it (den E zz) hu hit hzero base len cap (olds.map (den E)) hold x k (new.map (den E)) hsrc hg (by omega) hfit
  have hge := grown_ge w (len + k) cap e
  refine ROk.mk_new (V := .slice (some ⟨w.heap.size, 0, none⟩) (len + k) (grownCap w (len + k) cap e)) (Builtin.zeroCells (den E zz).cells (grownCap w (len + k) cap e - (len + k))).toList (grownCap w (len + k) cap e) hR (run_v_ok hrun) ?_ rfl rfl rfl
    (by simp [den]) (fun v hv => (List.mem_append.1 hv).elim (hob v) (hnb v)) (fun h => by cases h) (fun _ => ⟨z, ?_, hz0, ?_⟩) (by simp [AV.bd]) (fun h => by cases h) (fun h => by cases h)
  · show w.heap.push _ = _
    congr 2
    apply Array.ext'
    simp
  · unfold sizeT; rw [hit]; simp [hz]
  · simp only [List.length_append, holen, hnlen, Array.length_toList, zeroCells_len, den_cells, List.size_toArray, List.length_map, hzl]
    rw [← Nat.add_mul, ← Nat.add_mul]
    congr 1
    omega
theorem append_ok {t u ty : TypeId} {s x : AV} {r : AR} {e' : TypeId} (hR : Rep P E R n w) (hs : s.bd n) (hx : x.bd n) (hu' : P.underlying u = some (.slice e')) (h : appendA P R n t s x = some r) :
    ROk P E R n w r ((do pure (Next.value (← Builtin.append_ #[t, u] ty #[den E s, den E x])) : Sem Next).run P w) := by
  unfold appendA at h
  split at h
  · rename_i e z hez
    obtain ⟨hu, hz⟩ := elemZ_ok hez
    obtain ⟨it, hit, hiz⟩ := size_info hz
    split at h
    · cases h
    · rename_i z0
      split at h
      · cases h
      · rename_i zz hzz
        obtain ⟨it', hit', hzero, hzb⟩ := zero_info hzz E n
        have : it' = it := by rw [hit'] at hit; exact Option.some.inj hit
        subst this
        split at h
        · cases h
        · rename_i hzl
          have hzl := Nat.eq_of_beq_eq_true hzl
          split at h
          · cases h
          · rename_i k hk
            split at h
            · cases h
            · rename_i new hnew
              split at h
              · cases h
              · rename_i h1
                have h1 := allB_iff h1
                obtain ⟨hrow, hnlen, hnb⟩ := row_ok hR hnew (fun m hm => by rw [hk] at hm; simp only [Option.some.injEq] at hm; omega)
                have hone : ∀ v ∈ new.map (den E), v.oneCell' = true := by
                  intro v hv
                  obtain ⟨q, hq, rfl⟩ := List.mem_map.1 hv
                  exact one_ok (h1 q hq) E
                have hsrc : Src P it'.size u (den E x) k (new.map (den E)) w := by
                  rw [hiz]
                  exact ⟨.inl ⟨e', hu'⟩, fun w' => lenA_ok hk w', hrow false, hrow true, by simpa using hnlen, hone⟩
                have hbb : P.bytesOf e = it'.bytes := by unfold Program.bytesOf; rw [hit']; rfl
                have hz0 : 0 < z0 + 1 := Nat.succ_pos _
                split at h
                · split at h
                  · simp only [Option.some.injEq] at h; subst h
                    refine .pure hR ?_ trivial
                    have hnil : new = [] := List.eq_nil_of_length_eq_zero (by omega)
                    subst hnil
                    have := run_append_nothing (P := P) w t u ty e it' hu hit' none 0 0 (Nat.le_refl _) (den E x) hsrc
                    exact run_v_ok this
                  · rename_i k
                    split at h
                    · rename_i hsm
                      have hsm := Nat.le_of_ble_eq_true hsm
                      split at h
                      · rename_i hby
                        have hby := Nat.le_of_ble_eq_true hby
                        simp only [Option.some.injEq] at h; subst h
                        have := append_new (ty := ty) (olds := []) (new := new) (len := 0) (k := k + 1) (cap := 0) (base := none) hR hu hit' hiz hzero hzl hz0 (by omega) hsrc (by simp [Builtin.firstCells]) (by simp) hnlen (by omega) (by omega) (by simp) hnb
                        simpa [den] using this
                      · cases h
                    · cases h
                · rename_i g o len cap op
                  split at h
                  · rename_i tt cs oo hg
                    obtain ⟨rest, hob, hno, hyes⟩ := obj_cells hR hg
                    have hcb := (hR.bd g _ hg).2
                    split at h
                    · cases h
                    · rename_i hsm
                      have hsm := Nat.le_of_ble_eq_true hsm
                      split at h
                      · cases h
                      · rename_i hby
                        have hby := Nat.le_of_ble_eq_true hby
                        split at h
                        · split at h
                          · rename_i hroom
                            have hroom := Nat.le_of_ble_eq_true hroom
                            split at h
                            · rename_i hlen
                              have hlen := Nat.le_of_ble_eq_true hlen
                              simp only [Option.some.injEq] at h; subst h
                              have e1 : o + len * (z0 + 1) + new.length ≤ cs.length := by rw [hnlen, Nat.add_assoc, ← Nat.add_mul]; exact hlen
                              have sr := setCells_row (E := E) hob (o := o + len * (z0 + 1)) (vs := new) (by simp; omega) h1 P
                              refine ROk.mk_set hR hg hob (w' := w.setCells (E.ρ g) (o + len * (z0 + 1)) (new.map (den E))) (.inl (run_v_ok ?_)) ?_ (over_len _ _ _ e1) (over_bd hcb hnb) hs
                              · have := run_append_room_src (P := P) w t u ty e it' hu hit' (E.ρ g) o len cap (den E x) k (new.map (den E)) hsrc hroom (by rw [hiz]; exact sr.2.1) (by rw [hiz]; exact sr.2.2)
                                rw [hiz] at this
                                exact this
                              · rw [sr.1, over_map (den E) cs _ new rest e1]
                            · cases h
                          · rename_i hroom
                            have hroom : ¬ len + k ≤ cap := fun hh => by rw [Nat.ble_eq_true_of_le hh] at hroom; cases hroom
                            split at h
                            · rename_i hlen
                              have hlen := Nat.le_of_ble_eq_true hlen
                              split at h
                              · simp only [Option.some.injEq] at h; subst h
                                obtain ⟨hro, hol, hob2⟩ := row_ok (P := P) (x := .sl g o len cap false) (z := z0 + 1) (k := len) (cs := (cs.drop o).take (len * (z0 + 1))) hR (by
                                  simp only [rowA, okO, hg]
                                  rw [Nat.ble_eq_true_of_le hlen]) (fun m hm => by simp only [lenA, Option.some.injEq] at hm; omega)
                                have := append_new (ty := ty) (olds := (cs.drop o).take (len * (z0 + 1))) (new := new) (len := len) (k := k) (cap := cap) (base := some ⟨E.ρ g, o, none⟩) hR hu hit' hiz hzero hzl hz0 (by omega) hsrc (by rw [hiz]; exact hro true) hol hnlen (by omega) hsm hob2 hnb
                                exact this
                              · cases h
                            · cases h
                        · split at h
                          · cases h
                          · rename_i hoo
                            simp only [Bool.and_eq_true] at hoo
                            obtain ⟨hokl, rfl⟩ := hoo
                            rw [den_sl hokl]
                            split at h
                            · cases h
                            · rename_i htt
                              have htt := Nat.eq_of_beq_eq_true htt
                              subst htt
                              obtain ⟨z', hz', _, hlenT⟩ := hyes rfl
                              have : z' = z0 + 1 := by
                                have := hz.symm.trans hz'
                                simp only [Option.some.injEq] at this
                                exact this.symm
                              subst this
                              split at h
                              · cases h
                              · rename_i hoc
                                have hoc := Nat.eq_of_beq_eq_true hoc
                                split at h
                                · rename_i hlen
                                  have hlen := Nat.le_of_ble_eq_true hlen
                                  simp only [Option.some.injEq] at h; subst h
                                  have e1 : o + len * (z0 + 1) + new.length ≤ cs.length := by rw [hnlen, Nat.add_assoc, ← Nat.add_mul]; exact hlen
                                  have hroom : len + k ≤ E.κ g - cap := by
                                    have h5 : cap * (z0 + 1) + (len + k) * (z0 + 1) ≤ E.κ g * (z0 + 1) := by omega
                                    rw [← Nat.add_mul] at h5
                                    have := Nat.le_of_mul_le_mul_right h5 hz0
                                    omega
                                  have sr := setCells_row (E := E) hob (o := o + len * (z0 + 1)) (vs := new) (by simp; omega) h1 P
                                  refine ROk.mk_set hR hg hob (w' := w.setCells (E.ρ g) (o + len * (z0 + 1)) (new.map (den E))) (.inl (run_v_ok ?_)) ?_ (over_len _ _ _ e1) (over_bd hcb hnb) hs
                                  · have := run_append_room_src (P := P) w t u ty tt it' hu hit' (E.ρ g) o len (E.κ g - cap) (den E x) k (new.map (den E)) hsrc hroom (by rw [hiz]; exact sr.2.1) (by rw [hiz]; exact sr.2.2)
                                    rw [hiz] at this
                                    rw [den_sl (okO_add hokl)]
                                    exact this
                                  · rw [sr.1, over_map (den E) cs _ new rest e1]
                                · split at h
                                  · cases h
                                  · rename_i ho0
                                    have ho0 := Nat.eq_of_beq_eq_true ho0
                                    split at h
                                    · rename_i hlen
                                      have hlen := Nat.le_of_ble_eq_true hlen
                                      simp only [Option.some.injEq] at h; subst h
                                      have hc0 : cap = 0 := by
                                        rw [ho0] at hoc
                                        rcases Nat.eq_zero_or_pos cap with hc | hc
                                        · exact hc
                                        · have := Nat.mul_pos hc hz0; omega
                                      subst ho0
                                      subst hc0
                                      by_cases hroom : len + k ≤ E.κ g
                                      · have e2 : (len + k) * (z0 + 1) ≤ E.κ g * (z0 + 1) := Nat.mul_le_mul_right _ hroom
                                        have e1 : len * (z0 + 1) + new.length ≤ (cs.map (den E) ++ rest).length := by
                                          rw [hnlen, ← Nat.add_mul, List.length_append, List.length_map, hlenT]; exact e2
                                        have sr := setCells_row (E := E) hob (o := len * (z0 + 1)) (vs := new) e1 h1 P
                                        have hrun := run_append_room_src (P := P) w t u ty tt it' hu hit' (E.ρ g) 0 len (E.κ g) (den E x) k (new.map (den E)) hsrc hroom (by rw [hiz, Nat.zero_add]; exact sr.2.1) (by rw [hiz, Nat.zero_add]; exact sr.2.2)
                                        rw [hiz, Nat.zero_add] at hrun
                                        have hx' := E.ext n (E.ρ g) (E.κ g)
                                        have hother : ∀ b, b ≠ E.ρ g → (w.setCells (E.ρ g) (len * (z0 + 1)) (new.map (den E))).heap[b]? = w.heap[b]? := fun b hb => by rw [sr.1]; exact setRow_other _ _ _ _ hb
                                        have hbn : ∀ v ∈ cs.take (len * (z0 + 1)) ++ new, AV.bd n v := by
                                          intro v hv
                                          rcases List.mem_append.1 hv with hv | hv
                                          · exact hcb v (List.mem_of_mem_take hv)
                                          · exact hnb v hv
                                        refine ⟨E.new n (E.ρ g) (E.κ g), _, .inl ?_, by simp [AV.bd, effN], stp_moved hR hg hx' (by simp) hother (by rw [sr.1]; simp) (by rw [sr.1]; rfl) (by rw [sr.1]; rfl) (by rw [sr.1]; rfl), rep_moved hR hg hx' (by simp) hother ?_ (fun v hv => AV.bd_mono (Nat.le_succ n) (hbn v hv)), (fun h => by cases h), (fun _ _ h => by cases h)⟩
                                        · have := run_v_ok hrun
                                          simpa [den] using this
                                        · refine ⟨(cs.map (den E) ++ rest).drop (len * (z0 + 1) + (new.map (den E)).length), ?_, (fun h => by cases h), fun _ => ⟨z0 + 1, hz, hz0, ?_⟩⟩
                                          · rw [En.new_ρ, map_ext hx' hbn, sr.1, setRow_heap _ _ _ _ _ _ hob]
                                            congr 2
                                            apply congrArg List.toArray
                                            rw [List.map_append, List.map_take, List.take_append_of_le_length (by simpa using hlen)]
                                          · rw [En.new_κ, List.length_append, List.length_take, List.length_drop, List.length_append, List.length_map, List.length_map, hnlen, hlenT]
                                            have : len * (z0 + 1) + k * (z0 + 1) ≤ E.κ g * (z0 + 1) := by rw [← Nat.add_mul]; exact e2
                                            omega
                                      · obtain ⟨hro, hol, hob2⟩ := row_ok (P := P) (x := .sl g 0 len 0 true) (z := z0 + 1) (k := len) (cs := cs.take (len * (z0 + 1))) hR (by
                                          simp only [rowA, hokl, hg]
                                          rw [Nat.ble_eq_true_of_le (by omega : 0 + len * (z0 + 1) ≤ cs.length)]
                                          simp) (fun m hm => by simp only [lenA, Option.some.injEq] at hm; omega)
                                        have hro := hro true
                                        simp only [den_sl hokl, Nat.sub_zero] at hro
                                        have := append_new (ty := ty) (olds := cs.take (len * (z0 + 1))) (new := new) (len := len) (k := k) (cap := E.κ g) (base := some ⟨E.ρ g, 0, none⟩) hR hu hit' hiz hzero hzl hz0 (by omega) hsrc (by rw [hiz]; exact hro) hol hnlen (by omega) hsm hob2 hnb
                                        obtain ⟨E2, w2, hres, hbd, hst, hrep, -⟩ := this
                                        simp only [den, Nat.sub_zero]
                                        exact ⟨E2, w2, hres, hbd, stp_forget hst, rep_forget hrep, (fun h => by cases h), (fun _ _ h => by cases h)⟩
                                    · cases h
                  · cases h
                · cases h
  · cases h
end ops
end
end Go.Proofs.YtgooihjcaoajnaaGreat.Ev
