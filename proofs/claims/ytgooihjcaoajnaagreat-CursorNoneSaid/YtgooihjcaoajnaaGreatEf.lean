/- Each operation does to the world what the evaluator says: addresses, parts, closures, interfaces, maps. -/
import Derived.Test.YtgooihjcaoajnaaGreatEe
import Derived.Laws.BytesArg
set_option linter.unusedVariables false
set_option linter.unusedSimpArgs false
namespace Go.Proofs.YtgooihjcaoajnaaGreat.Ev
open Go Go.RowKit

section
variable {P : Program} {E : En} {R : Rd} {n : Nat} {w : World}
section ops
variable {ev : Operand → Option AV} {ρ : Operand → Value}
theorem fa_ok {s : TypeId} {x : Operand} {f : Nat} {r : AR} {o : Oper} (ho : o.op = .fieldAddr s x f) (hR : Rep P E R n w) (hE : EvOk E n ev ρ) (h : aFieldAddr P ev s x f = some r) : ROk P E R n w r ((execOp ρ o).run P w) := by
  unfold aFieldAddr at h
  split at h
  · rename_i g q hx
    split at h
    · rename_i fs hu
      split at h
      · rename_i fd hf
        split at h
        · rename_i z hz
          simp only [Option.some.injEq] at h; subst h
          refine .pure hR ?_ (hE _ _ hx).2
          simp only [execOp, ho, (hE _ _ hx).1, den]
          refine run_v_ok ?_
          simp [Instr.fieldAt, run_underlying hu, hf, Instr.sureAddr, fieldPlace, run_size hz, Addr.add_mid]
        · cases h
      · cases h
    · cases h
  · cases h
theorem field_ok {t : TypeId} {x : Operand} {f : Nat} {r : AR} {o : Oper} (ho : o.op = .field t x f) (hR : Rep P E R n w) (hE : EvOk E n ev ρ) (h : aField P ev t x f = some r) : ROk P E R n w r ((execOp ρ o).run P w) := by
  unfold aField at h
  split at h
  · rename_i cs hx
    split at h
    · rename_i fs hu
      split at h
      · rename_i fd hf
        refine v1_ok hR h fun v hv => ⟨?_, part_bd hv (bdL_iff.1 (hE _ _ hx).2)⟩
        simp only [execOp, ho, (hE _ _ hx).1, den, denL_eq]
        refine run_v_ok ?_
        simp [Instr.field, run_underlying hu, hf, asAgg, part_ok' hv E w]
      · cases h
    · cases h
  · cases h
theorem elemZ_ok {t e : TypeId} {z : Nat} (h : elemZ P t = some (e, z)) : P.underlying t = some (.slice e) ∧ sizeT P e = some z := by
  unfold elemZ at h
  split at h
  · rename_i e' hu
    split at h
    · rename_i z' hz
      simp only [Option.some.injEq, Prod.mk.injEq] at h
      obtain ⟨rfl, rfl⟩ := h
      exact ⟨hu, hz⟩
    · cases h
  · cases h
theorem ia_ok {t : TypeId} {x ix : Operand} {r : AR} {o : Oper} (ho : o.op = .indexAddr t x ix) (hR : Rep P E R n w) (hE : EvOk E n ev ρ) (h : aIndexAddr P ev t x ix = some r) : ROk P E R n w r ((execOp ρ o).run P w) := by
  unfold aIndexAddr at h
  split at h
  · rename_i k i hi
    split at h
    · rename_i g q len cap op hx
      split at h
      · rename_i e z hz
        split at h
        · rename_i hlt
          have hlt : i < len := Nat.le_of_ble_eq_true hlt
          simp only [Option.some.injEq] at h; subst h
          obtain ⟨hu, hz⟩ := elemZ_ok hz
          refine .pure hR ?_ (hE _ _ hx).2
          have hok : okO op len q = true := by
            cases len
            · omega
            · cases op <;> rfl
          simp only [execOp, ho, (hE _ _ hx).1, (hE _ _ hi).1, den]
          rw [offD_ok hok]
          refine run_v_ok ?_
          have h2 : (0 : Int) ≤ Int.ofNat i ∧ Int.ofNat i < len := by simp; omega
          simp [Instr.indexAt, asIntOf, run_underlying hu, run_size hz, Addr.add_mid, h2, hlt]
        · cases h
      · cases h
    · rename_i g q hx
      split at h
      · rename_i m e hu
        split at h
        · rename_i z hz
          split at h
          · rename_i hlt
            have hlt : i < m := Nat.le_of_ble_eq_true hlt
            simp only [Option.some.injEq] at h; subst h
            refine .pure hR ?_ (hE _ _ hx).2
            simp only [execOp, ho, (hE _ _ hx).1, (hE _ _ hi).1, den]
            refine run_v_ok ?_
            have h2 : (0 : Int) ≤ Int.ofNat i ∧ Int.ofNat i < m := by simp; omega
            simp [Instr.indexAt, asIntOf, run_underlying hu, run_size hz, Addr.add_mid, h2, hlt, Instr.sureAddr]
          · cases h
        · cases h
      · cases h
    · cases h
  · cases h
theorem index_ok {t : TypeId} {x ix : Operand} {r : AR} {o : Oper} (ho : o.op = .index t x ix) (hR : Rep P E R n w) (hE : EvOk E n ev ρ) (h : aIndex P ev t x ix = some r) : ROk P E R n w r ((execOp ρ o).run P w) := by
  unfold aIndex at h
  split at h
  · rename_i k i hi
    split at h
    · rename_i cs hx
      split at h
      · rename_i m e hu
        split at h
        · rename_i z hz
          split at h
          · rename_i hlt
            have hlt : i < m := Nat.le_of_ble_eq_true hlt
            refine v1_ok hR h fun v hv => ⟨?_, part_bd hv (bdL_iff.1 (hE _ _ hx).2)⟩
            simp only [execOp, ho, (hE _ _ hx).1, (hE _ _ hi).1, den, denL_eq]
            refine run_v_ok ?_
            simp [Instr.index, asIntOf, run_underlying hu, run_size hz, hlt, part_ok' hv E w]
          · cases h
        · cases h
      · cases h
    · rename_i l hx
      split at h
      · rename_i hu
        split at h
        · rename_i b hb
          simp only [Option.some.injEq] at h; subst h
          refine .pure hR ?_ trivial
          simp only [execOp, ho, (hE _ _ hx).1, (hE _ _ hi).1, den]
          refine run_v_ok ?_
          have hlt := (List.getElem?_eq_some_iff.1 hb).1
          have e1 : (ByteArray.mk ⟨l⟩)[i]? = some b := by
            have e2 : i < (ByteArray.mk ⟨l⟩).size := hlt
            rw [getElem?_pos (ByteArray.mk ⟨l⟩) i e2]
            congr 1
            have := (List.getElem?_eq_some_iff.1 hb).2
            rw [← this]
            rfl
          simp [Instr.index, asIntOf, run_underlying hu, e1]
        · cases h
      · cases h
    · cases h
  · cases h
theorem extract_ok {x : Operand} {i : Nat} {r : AR} {o : Oper} (ho : o.op = .extract x i) (hR : Rep P E R n w) (hE : EvOk E n ev ρ) (h : aExtract ev x i = some r) : ROk P E R n w r ((execOp ρ o).run P w) := by
  unfold aExtract at h
  split at h
  · rename_i l hx
    refine v1_ok hR h fun v hv => ⟨?_, bdL_iff.1 (hE _ _ hx).2 v (List.mem_of_getElem? hv)⟩
    simp only [execOp, ho, (hE _ _ hx).1, den, denL_eq]
    refine run_v_ok ?_
    simp [Instr.extract, hv]
  · cases h
theorem evs_ok (hE : EvOk E n ev ρ) : ∀ {l : List Operand} {r : List AV}, evs ev l = some r → l.map ρ = r.map (den E) ∧ ∀ v ∈ r, AV.bd n v
  | [], r, h => by simp only [evs, Option.some.injEq] at h; subst h; exact ⟨rfl, by simp⟩
  | x :: l, r, h => by
    simp only [evs] at h
    split at h
    · rename_i a ha
      split at h
      · rename_i r' hr
        simp only [Option.some.injEq] at h; subst h
        have h1 := hE _ _ ha
        have h2 := evs_ok hE hr
        refine ⟨by simp [h1.1, h2.1], ?_⟩
        intro v hv
        rcases List.mem_cons.1 hv with rfl | hv
        · exact h1.2
        · exact h2.2 v hv
      · cases h
    · cases h
theorem map_arr (ρ : Operand → Value) (a : Array Operand) {l : List Value} (h : a.toList.map ρ = l) : a.map ρ = ⟨l⟩ := by
  apply Array.ext'
  rw [Array.toList_map, h]
theorem mf_ok {fn : Fn} {a c : Array Operand} {r : AR} {o : Oper} (ho : o.op = .makeFunc fn a c) (hR : Rep P E R n w) (hE : EvOk E n ev ρ) (h : aFunc ev fn a c = some r) : ROk P E R n w r ((execOp ρ o).run P w) := by
  unfold aFunc at h
  split at h
  · split at h
    · rename_i la hla
      split at h
      · rename_i lc hlc
        simp only [Option.some.injEq] at h; subst h
        have h1 := evs_ok hE hla
        have h2 := evs_ok hE hlc
        refine .pure hR ?_ ⟨bdL_iff.2 h1.2, bdL_iff.2 h2.2⟩
        simp only [execOp, ho, den, denL_eq]
        refine run_v_ok ?_
        rw [map_arr ρ a h1.1, map_arr ρ c h2.1]
        rfl
      · cases h
    · cases h
  · cases h
theorem bytesV_ok {E : En} : ∀ {cs : List AV} {l : List UInt8}, bytesV cs = some l → ∃ ns : List Int, cs.map (den E) = ns.map (Value.int .u8) ∧ l = ns.map fun n => UInt8.ofNat n.toNat
  | [], l, h => by simp only [bytesV, Option.some.injEq] at h; subst h; exact ⟨[], rfl, rfl⟩
  | v :: cs, l, h => by
    simp only [bytesV] at h
    split at h
    · rename_i b hb
      split at h
      · rename_i r hr
        simp only [Option.some.injEq] at h; subst h
        obtain ⟨ns, h1, h2⟩ := bytesV_ok (E := E) hr
        unfold byteV at hb
        split at hb
        · rename_i m
          simp only [Option.some.injEq] at hb; subst hb
          exact ⟨(m : Int) :: ns, by simp [den, h1], by simp [h2]⟩
        · cases hb
      · cases h
    · cases h
theorem conv_ok {s d : TypeId} {x : Operand} {r : AR} {o : Oper} (ho : o.op = .convert s d x) (hR : Rep P E R n w) (hE : EvOk E n ev ρ) (h : aConv P ev R s d x = some r) : ROk P E R n w r ((execOp ρ o).run P w) := by
  unfold aConv at h
  split at h
  · rename_i sd hs
    split at h
    · rename_i dd hd
      split at h
      · rename_i k k' m hx
        simp only [Option.some.injEq] at h; subst h
        refine .pure hR ?_ trivial
        simp only [execOp, ho, (hE _ _ hx).1, den]
        refine run_v_ok ?_
        simp [convert, run_underlying hs, run_underlying hd, Conv.intToInt, wr_eq]
      · rename_i l hx
        split at h
        · simp only [Option.some.injEq] at h; subst h
          refine .pure hR ?_ trivial
          simp only [execOp, ho, (hE _ _ hx).1, den]
          refine run_v_ok ?_
          simp [convert, run_underlying hs, run_underlying hd]
        · cases h
      · rename_i g q m c op hx
        split at h
        · rename_i e
          split at h
          · rename_i hu
            split at h
            · cases h
            rename_i hok
            split at h
            · rename_i cs hcs
              split at h
              · rename_i l hl
                simp only [Option.some.injEq] at h; subst h
                refine .pure hR ?_ trivial
                simp only [execOp, ho, (hE _ _ hx).1, den]
                rw [offD_ok hok]
                refine run_v_ok ?_
                unfold rowA at hcs
                simp only [hok] at hcs
                split at hcs
                · rename_i tt cs' oo hg
                  split at hcs
                  · rename_i hle
                    have hle := Nat.le_of_ble_eq_true hle
                    simp only [Option.some.injEq] at hcs; subst hcs
                    simp only [Nat.mul_one] at hle hl
                    obtain ⟨ns, hns, rfl⟩ := bytesV_ok (E := E) hl
                    obtain ⟨rest, hob, -⟩ := obj_cells hR hg
                    have hlen : (ns.map (Value.int .u8)).length = m := by rw [← hns]; simp; omega
                    have hload : (loadCells ⟨E.ρ g, q, none⟩ m).run P w = .ok (ns.map (Value.int .u8)).toArray w := by
                      have := run_loadCells_list (P := P) w ⟨E.ρ g, q, none⟩ (ns.map (Value.int .u8)) (fun j v hj => by
                        refine cell_of hob ?_
                        have hj' : j < m := by have := (List.getElem?_eq_some_iff.1 hj).1; omega
                        rw [← hns, map_cut, List.getElem?_take_of_lt hj', List.getElem?_drop] at hj
                        rw [List.getElem?_append_left (by simp; omega)]
                        exact hj)
                      rwa [hlen] at this
                    rw [run_convert_bytes_string w s d e _ m _ hs hu hd, run_bytesToString w _ m _ ns hload, foldl_push_bytes]
                    simp [ByteArray.empty, ByteArray.emptyWithCapacity]
                    rfl
                  · cases hcs
                · cases hcs
              · cases h
            · cases h
          · cases h
        · cases h
      · rename_i hx
        split at h
        · rename_i e
          split at h
          · rename_i hu
            simp only [Option.some.injEq] at h; subst h
            refine .pure hR ?_ trivial
            simp only [execOp, ho, (hE _ _ hx).1, den]
            refine run_v_ok ?_
            exact run_convert_bytes_nil w s e hs hu 0 0 d hd
          · cases h
        · cases h
      · cases h
    · cases h
  · cases h
theorem iface_ok {t : TypeId} {x : Operand} {r : AR} {o : Oper} (ho : o.op = .makeInterface t x) (hR : Rep P E R n w) (hE : EvOk E n ev ρ) (h : aIface P ev t x = some r) : ROk P E R n w r ((execOp ρ o).run P w) := by
  unfold aIface at h
  split at h
  · cases h
  · rename_i d hd hu
    split at h
    · rename_i v hx
      simp only [Option.some.injEq] at h; subst h
      refine .pure hR ?_ (hE _ _ hx).2
      simp only [execOp, ho, (hE _ _ hx).1, den]
      refine run_v_ok ?_
      unfold Instr.makeInterface
      rw [Sem.run_bind, run_underlying hu, Result.andThen_ok]
      cases d <;> first | rfl | exact absurd rfl (hd _)
    · cases h
  · cases h
theorem assert_ok {x : Operand} {u t : TypeId} {c : Bool} {r : AR} {o : Oper} (ho : o.op = .typeAssert x u t c) (hR : Rep P E R n w) (hE : EvOk E n ev ρ) (h : aAssert P ev x t c = some r) : ROk P E R n w r ((execOp ρ o).run P w) := by
  unfold aAssert at h
  split at h
  · cases h
  · rename_i d hd hu
    split at h
    · rename_i q v hx
      split at h
      · rename_i he
        have he := Nat.eq_of_beq_eq_true he
        subst he
        simp only [Option.some.injEq] at h; subst h
        refine .pure hR ?_ ?_
        · simp only [execOp, ho, (hE _ _ hx).1, den]
          refine run_v_ok ?_
          unfold Instr.typeAssert
          rw [Sem.run_bind, run_underlying hu, Result.andThen_ok]
          cases d <;> first | exact absurd rfl (hd _) | (cases c <;> simp [den])
        · cases c
          · exact (hE _ _ hx).2
          · exact ⟨(hE _ _ hx).2, trivial, trivial⟩
      · rename_i he
        have he := Nat.ne_of_beq_eq_false he
        split at h
        · split at h
          · rename_i z hz
            simp only [Option.some.injEq] at h; subst h
            refine .pure hR ?_ ⟨zero_bd hz n, trivial, trivial⟩
            simp only [execOp, ho, (hE _ _ hx).1, den]
            refine run_v_ok ?_
            unfold Instr.typeAssert
            rw [Sem.run_bind, run_underlying hu, Result.andThen_ok]
            cases d <;> first | exact absurd rfl (hd _) | simp [he, run_zero hz E, denL, den]
          · cases h
        · cases h
    · rename_i hx
      split at h
      · split at h
        · rename_i z hz
          simp only [Option.some.injEq] at h; subst h
          refine .pure hR ?_ ⟨zero_bd hz n, trivial, trivial⟩
          simp only [execOp, ho, (hE _ _ hx).1, den]
          refine run_v_ok ?_
          unfold Instr.typeAssert
          rw [Sem.run_bind, run_underlying hu, Result.andThen_ok]
          cases d <;> first | exact absurd rfl (hd _) | simp [run_zero hz E, denL, den]
        · cases h
      · cases h
    · cases h
  · cases h
theorem panic_ok {x : Operand} {r : AR} {o : Oper} (ho : o.op = .panic x) (hR : Rep P E R n w) (hE : EvOk E n ev ρ) (h : aPanic ev x = some r) : ROk P E R n w r ((execOp ρ o).run P w) := by
  unfold aPanic at h
  split at h
  · rename_i t v hx
    simp only [Option.some.injEq] at h; subst h
    refine ⟨?_, (hE _ _ hx).2⟩
    simp only [execOp, ho, (hE _ _ hx).1, den]
    exact run_v_halt (by simp [Instr.panic, goPanic])
  · cases h
theorem defer_ok {c : Call} {r : AR} {o : Oper} (ho : o.op = .defer c) (hR : Rep P E R n w) (hE : EvOk E n ev ρ) (h : aDefer ev c = some r) : ROk P E R n w r ((execOp ρ o).run P w) := by
  unfold aDefer at h
  split at h
  · rename_i args ha
    split at h
    · rename_i x hc
      split at h
      · rename_i f first cap hx
        simp only [Option.some.injEq] at h; subst h
        have h1 := evs_ok hE ha
        have h2 := (hE _ _ hx).2
        refine ⟨?_, ?_, bdL_iff.1 h2.2⟩
        · simp only [execOp, ho, resolve, hc, (hE _ _ hx).1, den, denL_eq, Deferred.ofValue, denD]
          rw [map_arr ρ c.args h1.1]
          simp
        · intro v hv
          rcases List.mem_append.1 hv with hv | hv
          · exact bdL_iff.1 h2.1 v hv
          · exact h1.2 v hv
      · cases h
    · cases h
  · cases h
end ops
end
end Go.Proofs.YtgooihjcaoajnaaGreat.Ev
