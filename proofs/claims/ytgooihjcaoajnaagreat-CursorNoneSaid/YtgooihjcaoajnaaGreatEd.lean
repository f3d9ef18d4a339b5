/- Each operation does to the world what the evaluator says: two operands, one operand. -/
import Derived.Test.YtgooihjcaoajnaaGreatEc
import Derived.ChangeKeysEq
set_option linter.unusedVariables false
set_option linter.unusedSimpArgs false
namespace Go.Proofs.YtgooihjcaoajnaaGreat.Ev
open Go Go.RowKit

/-- what is asked of a struct type whose values are compared -/
def SeOk (P : Program) (se : List TypeId) : Prop := ∀ t, memB t se = true → P.stoodInHeld t = false ∧ P.eqGuardType P.depth t = false ∧ ((P.fieldsOf t).toList.all fun f => !(f.name == "_")) = true

section
variable {P : Program} {E : En} {R : Rd} {n : Nat} {w : World} {se : List TypeId}

theorem toList_mk' (l : List UInt8) : (⟨⟨l⟩⟩ : ByteArray).toList = l := by rw [ByteArray.toList_eq]

theorem eq1_run {t : TypeId} {d : TypeDesc} (hR : Rep P E R n w) (hu : P.underlying t = some d) {x y : AV} {r : Bool} (h : eq1 P R d x y = some r) (k : Nat) :
    (Op.equalIn (k + 1) t (den E x) (den E y)).run P w = .ok r w := by
  unfold eq1 at h
  split at h
  · simp only [Option.some.injEq] at h; subst h; simp [Op.equalIn, run_underlying hu, den]
  · split at h
    · rename_i hk
      have hk := of_decide_eq_true hk
      simp only [Option.some.injEq] at h; subst h; simp [Op.equalIn, run_underlying hu, den, hk]
    · cases h
  · split at h
    · rename_i hk
      have hk := of_decide_eq_true hk
      simp only [Option.some.injEq] at h; subst h; simp [Op.equalIn, run_underlying hu, den, hk.1, hk.2]
    · cases h
  · simp only [Option.some.injEq] at h; subst h
    simp only [den]
    rw [run_equalIn_string w k t _ _ hu, toList_mk', toList_mk']
  · simp only [Option.some.injEq] at h; subst h; simp [Op.equalIn, run_underlying hu, den]
  · simp only [Option.some.injEq] at h; subst h; simp [Op.equalIn, run_underlying hu, den]
  · simp only [Option.some.injEq] at h; subst h; simp [Op.equalIn, run_underlying hu, den]
  · rename_i e g o h' q
    split at h
    · rename_i t1 c1 o1 t2 c2 o2 z h1 h2 h3
      obtain ⟨i, hi, hz⟩ := size_info h3
      obtain ⟨r1, hb1, -⟩ := hR.obj _ _ h1
      obtain ⟨r2, hb2, -⟩ := hR.obj _ _ h2
      simp only [Option.some.injEq] at h; subst h
      have hsz : i.size ≠ 0 := by omega
      by_cases hs : (⟨E.ρ g, o, none⟩ : Addr) = ⟨E.ρ h', q, none⟩
      · simp only [Addr.mk.injEq, and_true] at hs
        have := hR.inj _ _ _ _ h1 h2 hs.1
        subst this
        have := hs.2
        subst this
        have e1 : Nat.beq g g = true := Nat.beq_refl g
        have e2 : Nat.beq o o = true := Nat.beq_refl o
        simp [Op.equalIn, run_underlying hu, den, sizeOf, typeInfo, hi, hsz, run_sameAddr_same, e1, e2]
      · have e1 : (Nat.beq g h' && Nat.beq o q) = false := by
          cases e : Nat.beq g h' with
          | true =>
            have := Nat.eq_of_beq_eq_true e
            subst this
            cases e2 : Nat.beq o q with
            | false => rfl
            | true => have := Nat.eq_of_beq_eq_true e2; subst this; exact absurd rfl hs
          | false => rfl
        rw [e1]
        simp [Op.equalIn, run_underlying hu, den, sizeOf, typeInfo, hi, hsz, run_sameAddr_other w hs hb1 hb2]
    · cases h
  all_goals first
    | (simp only [Option.some.injEq] at h; subst h; simp [Op.equalIn, run_underlying hu, den]; done)
    | cases h

theorem fieldsOf_eq {t : TypeId} {fs : Array Field} (h : P.underlying t = some (.struct fs)) : P.fieldsOf t = fs := by unfold Program.fieldsOf; rw [h]

mutual
theorem eqN_run (hse : SeOk P se) (hR : Rep P E R n w) : ∀ (d : Nat) {t : TypeId} {x y : AV} {r : Bool}, eqN P se R d t x y = some r → ∀ k, (Op.equalIn (d + k) t (den E x) (den E y)).run P w = .ok r w
  | 0, t, x, y, r, h, k => by simp [eqN] at h
  | d + 1, t, x, y, r, h, k => by
    unfold eqN at h
    split at h
    · rename_i fs hu
      split at h
      · rename_i xs ys
        split at h
        · rename_i hm
          have hf := fieldsOf_eq hu
          have hs := hse t hm
          have hd : d + 1 + k = (d + k) + 1 := by omega
          simp only [den, denL_eq, hd]
          rw [run_equalIn_struct w (d + k) t _ _ (by rw [hf]; exact hu) hs.1, hf]
          exact eqF_run hse hR d (hf ▸ hs.2.2) h k
        · cases h
      · cases h
    · rename_i len e hu
      split at h
      · rename_i xs ys
        split at h
        · split at h
          · rename_i z hz
            obtain ⟨i, hi, hzi⟩ := size_info hz
            have hc : P.cellsOf e = z := by simp [Program.cellsOf, hi, hzi]
            have hd : d + 1 + k = (d + k) + 1 := by omega
            simp only [den, denL_eq, hd]
            rw [run_equalIn_array w (d + k) _ _ hu hi, hc]
            exact eqA_run hse hR d h k
          · cases h
        · cases h
      · cases h
    · rename_i de hd1 hd2 hu
      have hd : d + 1 + k = (d + k) + 1 := by omega
      rw [hd]
      exact eq1_run hR hu h (d + k)
    · cases h
theorem eqA_run (hse : SeOk P se) (hR : Rep P E R n w) : ∀ (d : Nat) {e : TypeId} {z : Nat} {is : List Nat} {xs ys : List AV} {r : Bool}, eqN.eqA P se R d e z is xs ys = some r → ∀ k,
    (Op.eqItems (d + k) e z ⟨xs.map (den E)⟩ ⟨ys.map (den E)⟩ is).run P w = .ok r w
  | _, e, z, [], xs, ys, r, h, k => by
    simp only [eqN.eqA, Option.some.injEq] at h
    subst h
    simp [Op.eqItems]
  | 0, e, z, i :: is, xs, ys, r, h, k => by simp [eqN.eqA] at h
  | d + 1, e, z, i :: is, xs, ys, r, h, k => by
    simp only [eqN.eqA] at h
    split at h
    · cases h
    · rename_i a hpa
      split at h
      · cases h
      · rename_i b hpb
        have ee : d + 1 + k = d + (k + 1) := by omega
        simp only [Op.eqItems, Sem.run_bind, part_ok' hpa E w, part_ok' hpb E w, Result.andThen_ok]
        split at h
        · rename_i hab
          have h1 := eqN_run hse hR d hab (k + 1)
          have h2 := eqA_run hse hR d h (k + 1)
          rw [ee, h1, Result.andThen_ok]
          simpa using h2
        · rename_i hab
          have h1 := eqN_run hse hR d hab (k + 1)
          simp only [Option.some.injEq] at h
          subst h
          rw [ee, h1, Result.andThen_ok]
          simp
        · cases h
theorem eqF_run (hse : SeOk P se) (hR : Rep P E R n w) : ∀ (d : Nat) {fs : List Field} {xs ys : List AV} {r : Bool}, (fs.all fun f => !(f.name == "_")) = true → eqN.eqF P se R d fs xs ys = some r → ∀ k,
    (Op.eqFields (d + k) ⟨xs.map (den E)⟩ ⟨ys.map (den E)⟩ fs).run P w = .ok r w
  | _, [], xs, ys, r, _, h, k => by
    simp only [eqN.eqF, Option.some.injEq] at h
    subst h
    simp [Op.eqFields]
  | 0, f :: fs, xs, ys, r, _, h, k => by simp [eqN.eqF] at h
  | d + 1, f :: fs, xs, ys, r, ha, h, k => by
    simp only [List.all_cons, Bool.and_eq_true, Bool.not_eq_true', beq_eq_false_iff_ne] at ha
    simp only [eqN.eqF] at h
    split at h
    · cases h
    · rename_i a hpa
      split at h
      · cases h
      · rename_i b hpb
        have e : d + 1 + k = d + (k + 1) := by omega
        simp only [Op.eqFields, ha.1, ne_eq, not_false_eq_true, if_true, Sem.run_bind, part_ok' hpa E w, part_ok' hpb E w, Result.andThen_ok]
        split at h
        · rename_i hab
          have h1 := eqN_run hse hR d hab (k + 1)
          have h2 := eqF_run hse hR d ha.2 h (k + 1)
          rw [e, h1, Result.andThen_ok]
          simpa using h2
        · rename_i hab
          have h1 := eqN_run hse hR d hab (k + 1)
          simp only [Option.some.injEq] at h
          subst h
          rw [e, h1, Result.andThen_ok]
          simp
        · cases h
end

theorem binEql (t : TypeId) (a b : AV) (h1 : ∀ k m j q, ¬ (a = .i k m ∧ b = .i j q)) (h2 : ∀ k m, ¬ (a = .s k ∧ b = .s m)) (h3 : ∀ k j, a ≠ .y k j ∧ b ≠ .y k j) :
    (binOp .eql t (den E a) (den E b)).run P w = ((Op.equal t (den E a) (den E b)).run P w).andThen (fun r w' => .ok (.bool r) w') := by
  cases a <;> cases b <;> first
    | exact absurd ⟨rfl, rfl⟩ (h1 _ _ _ _)
    | exact absurd ⟨rfl, rfl⟩ (h2 _ _)
    | exact absurd rfl (h3 _ _).1
    | exact absurd rfl (h3 _ _).2
    | (simp only [den, binOp, Sem.run_bind]; rfl)
theorem binNeq (t : TypeId) (a b : AV) (h1 : ∀ k m j q, ¬ (a = .i k m ∧ b = .i j q)) (h2 : ∀ k m, ¬ (a = .s k ∧ b = .s m)) (h3 : ∀ k j, a ≠ .y k j ∧ b ≠ .y k j) :
    (binOp .neq t (den E a) (den E b)).run P w = ((Op.equal t (den E a) (den E b)).run P w).andThen (fun r w' => .ok (.bool (!r)) w') := by
  cases a <;> cases b <;> first
    | exact absurd ⟨rfl, rfl⟩ (h1 _ _ _ _)
    | exact absurd ⟨rfl, rfl⟩ (h2 _ _)
    | exact absurd rfl (h3 _ _).1
    | exact absurd rfl (h3 _ _).2
    | (simp only [den, binOp, Sem.run_bind]; rfl)
theorem guard_ok (op : BinOp) (t : TypeId) (x y : Operand) (a b : AV) (h1 : a = .ni → b = .ni → isC x = true ∨ isC y = true)
    (h2 : ∀ l m, a = .ag l → b = .ag m → P.eqGuardType P.depth t = false) : (eqGuard op t x y (den E a) (den E b)).run P w = .ok () w := by
  cases a
  case ni =>
    cases b
    case ni =>
      have h := h1 rfl rfl
      rcases h with h | h
      · cases x <;> simp only [isC, Bool.false_eq_true] at h
        cases op <;> rfl
      · cases y <;> simp only [isC, Bool.false_eq_true] at h
        cases x <;> cases op <;> rfl
    all_goals (unfold eqGuard; simp only [den]; split <;> rfl)
  case ag l =>
    cases b
    case ag m =>
      have h := h2 l m rfl rfl
      simp only [den]
      exact run_eqGuard_agg w op t x y _ _ h
    all_goals (unfold eqGuard; simp only [den]; split <;> rfl)
  all_goals (cases b <;> (unfold eqGuard; simp only [den]; split <;> rfl))
theorem int_ok {op : BinOp} {k : IntKind} {a b : Int} {r : AV} (h : intBin op k a b = some r) (t : TypeId) (hne : op ≠ .shl ∧ op ≠ .shr) : (binOp op t (.int k a) (.int k b)).run P w = .ok (den E r) w ∧ r.bd n := by
  cases op <;> simp only [intBin] at h
  all_goals first
    | exact absurd rfl hne.1
    | exact absurd rfl hne.2
    | (simp only [Option.some.injEq] at h; subst h; exact ⟨by simp [binOp, Op.intArith, Op.intCmp, Op.intBits, den, wr_eq], trivial⟩)
    | (split at h
       · cases h
       · rename_i hb
         have hb := of_decide_eq_false hb
         simp only [Option.some.injEq] at h; subst h; exact ⟨by simp [binOp, Op.intDiv, hb, den, wr_eq], trivial⟩)
theorem shift_ok {op : BinOp} {k j : IntKind} {a b : Int} {r : AV} (h : intBin op k a b = some r) (t : TypeId) (hop : op = .shl ∨ op = .shr) : (binOp op t (.int k a) (.int j b)).run P w = .ok (den E r) w ∧ r.bd n := by
  rcases hop with rfl | rfl <;> simp only [intBin] at h
  all_goals
    split at h
    · cases h
    · rename_i hb
      have hb := of_decide_eq_false hb
      simp only [Option.some.injEq] at h; subst h
      exact ⟨by simp only [binOp, Op.shift, if_neg hb, den]; rfl, trivial⟩
theorem eqT_run (hse : SeOk P se) (hR : Rep P E R n w) {t : TypeId} {x y : Operand} {a b : AV} {r : Bool} (h : eqT P se R t x y a b = some r) :
    (Op.equal t (den E a) (den E b)).run P w = .ok r w ∧ (a = .ni → b = .ni → isC x = true ∨ isC y = true) ∧ (∀ l m, a = .ag l → b = .ag m → P.eqGuardType P.depth t = false) := by
  unfold eqT at h
  split at h
  · split at h
    · rename_i ms hu
      have hr : r = true ∧ (isC x = true ∨ isC y = true) := by
        cases hx : isC x with
        | true => rw [hx] at h; simp only [Option.some.injEq] at h; exact ⟨h.symm, .inl rfl⟩
        | false =>
          rw [hx] at h
          cases hy : isC y with
          | true => rw [hy] at h; simp only [Option.some.injEq] at h; exact ⟨h.symm, .inr rfl⟩
          | false => rw [hy] at h; cases h
      obtain ⟨rfl, hc⟩ := hr
      refine ⟨?_, fun _ _ => hc, fun l m ha => by cases ha⟩
      have h9 : ∀ d, (Op.equalIn (d + 1) t .nilIface .nilIface).run P w = .ok true w := fun d => by simp [Op.equalIn, run_underlying hu]
      exact h9 9999
    · cases h
  · rename_i hn
    refine ⟨?_, fun ha hb => absurd hb (fun hb => hn ha hb), ?_⟩
    · have := eqN_run hse hR 60 h 9940
      simpa [Op.equal, Op.maxDepth] using this
    · intro l m ha hb
      subst ha; subst hb
      simp only [eqN] at h
      split at h
      · split at h
        · rename_i hm; exact (hse t hm).2.1
        · cases h
      · split at h
        · rename_i hm; exact (hse t hm).2.1
        · cases h
      · rename_i de _ _ hde
        unfold eq1 at h
        split at h <;> simp_all
      · cases h
theorem bin_ok {op : BinOp} {t : TypeId} {x y : Operand} {a b v : AV} (hse : SeOk P se) (hR : Rep P E R n w) (h : binA P se R op t x y a b = some v) :
    (do eqGuard op t x y (den E a) (den E b); binOp op t (den E a) (den E b)).run P w = .ok (den E v) w ∧ v.bd n := by
  unfold binA at h
  split at h
  · rename_i k m j q
    rw [Sem.run_bind, guard_ok op t x y _ _ (fun h => by cases h) (fun l m h => by cases h), Result.andThen_ok]
    simp only [den]
    split at h
    · exact shift_ok h t (.inl rfl)
    · exact shift_ok h t (.inr rfl)
    · rename_i h1 h2
      split at h
      · rename_i hk
        have hk := of_decide_eq_true hk
        subst hk
        exact int_ok h t ⟨fun e => h1 e, fun e => h2 e⟩
      · cases h
  · rename_i m q
    rw [Sem.run_bind, guard_ok op t x y _ _ (fun h => by cases h) (fun l m h => by cases h), Result.andThen_ok]
    split at h
    · simp only [Option.some.injEq] at h; subst h
      exact ⟨by simp [den, binOp, Op.stringOp, toList_mk'], trivial⟩
    · simp only [Option.some.injEq] at h; subst h
      exact ⟨by simp [den, binOp, Op.stringOp, toList_mk'], trivial⟩
    · split at h
      · rename_i hle
        have hle := Nat.le_of_ble_eq_true hle
        simp only [Option.some.injEq] at h; subst h
        refine ⟨?_, trivial⟩
        simp only [den, binOp, Op.stringOp]
        have e1 : ¬ (((ByteArray.mk ⟨m⟩).size + (ByteArray.mk ⟨q⟩).size : Nat) : Int) > IntKind.i64.max := by
          have : (ByteArray.mk ⟨m⟩).size + (ByteArray.mk ⟨q⟩).size ≤ 1000000 := hle
          simp only [IntKind.max, IntKind.signed, IntKind.bits]
          simp
          omega
        rw [if_neg e1]
        have e2 : (ByteArray.mk ⟨m⟩ ++ ByteArray.mk ⟨q⟩) = ByteArray.mk ⟨m ++ q⟩ := by
          apply ByteArray.ext
          rw [ByteArray.data_append]
          simp
        rw [e2]
        rfl
      · cases h
    · cases h
  · cases h
  · rename_i n3 n1 n2
    have ny : ∀ {r}, eqT P se R t x y a b = some r → ∀ k j, a ≠ .y k j ∧ b ≠ .y k j := by
      intro r hr k j
      constructor
      · intro e
        exact n3 _ _ e
      · intro e
        subst e
        cases a <;> first | exact (n3 _ _ rfl).elim | skip
        all_goals simp only [eqT, eqN] at hr
        all_goals (split at hr <;> first | cases hr | (unfold eq1 at hr; split at hr <;> simp_all))
    split at h
    · split at h
      · rename_i r hr
        simp only [Option.some.injEq] at h; subst h
        have := eqT_run hse hR hr
        rw [Sem.run_bind, guard_ok _ t x y _ _ this.2.1 this.2.2, Result.andThen_ok, binEql t a b (fun k m j q e => n1 _ _ _ _ e.1 e.2) (fun k m e => n2 _ _ e.1 e.2) (ny hr), this.1]
        exact ⟨rfl, trivial⟩
      · cases h
    · split at h
      · rename_i r hr
        simp only [Option.some.injEq] at h; subst h
        have := eqT_run hse hR hr
        rw [Sem.run_bind, guard_ok _ t x y _ _ this.2.1 this.2.2, Result.andThen_ok, binNeq t a b (fun k m j q e => n1 _ _ _ _ e.1 e.2) (fun k m e => n2 _ _ e.1 e.2) (ny hr), this.1]
        exact ⟨rfl, trivial⟩
      · cases h
    · cases h
theorem ltP_ok {k k' : IntKind} {i j : Nat} (h : ltP (.y k i) (.y k' j) = true) : E.σ i < E.σ j := by
  simp only [ltP] at h
  split at h
  · rename_i e
    rw [Nat.eq_of_beq_eq_true e]
    exact E.ord i h
  · cases h
theorem sym_int {a b : AV} (h : symK a b = true) : ∃ k p q, den E a = .int k p ∧ den E b = .int k q ∧ (∀ l, loA a = some l → l ≤ p) ∧ (∀ u, hiA a = some u → p ≤ u) ∧ (∀ l, loA b = some l → l ≤ q) ∧ (∀ u, hiA b = some u → q ≤ u) ∧ (sameS a b = true → p = q) ∧ (ltP a b = true → p < q) ∧ (ltP b a = true → q < p) := by
  unfold symK at h
  split at h
  · have e := of_decide_eq_true h
    subst e
    exact ⟨_, _, _, rfl, rfl, fun l h => by cases h; exact Int.le_refl _, fun l h => by cases h; exact Int.le_refl _, (E.dom _).1, (E.dom _).2, fun h => by simp [sameS] at h, fun h => by simp [ltP] at h, fun h => by simp [ltP] at h⟩
  · have e := of_decide_eq_true h
    subst e
    exact ⟨_, _, _, rfl, rfl, (E.dom _).1, (E.dom _).2, fun l h => by cases h; exact Int.le_refl _, fun l h => by cases h; exact Int.le_refl _, fun h => by simp [sameS] at h, fun h => by simp [ltP] at h, fun h => by simp [ltP] at h⟩
  · have e := of_decide_eq_true h
    subst e
    exact ⟨_, _, _, rfl, rfl, (E.dom _).1, (E.dom _).2, (E.dom _).1, (E.dom _).2, fun h => by
      have := Nat.eq_of_beq_eq_true h
      rw [this], ltP_ok, ltP_ok⟩
  · cases h
theorem sameS_comm (a b : AV) : sameS a b = sameS b a := by
  cases a <;> cases b <;> simp [sameS]
  rename_i i _ j
  cases h : Nat.beq i j with
  | true => rw [Nat.eq_of_beq_eq_true h, Nat.beq_refl]
  | false =>
    cases h2 : Nat.beq j i with
    | false => rfl
    | true => rw [Nat.eq_of_beq_eq_true h2, Nat.beq_refl] at h; cases h
theorem ltS_lt {a b : AV} {p q : Int} (h : ltS a b = true) (h1 : ∀ u, hiA a = some u → p ≤ u) (h2 : ∀ l, loA b = some l → l ≤ q) (h3 : ltP a b = true → p < q) : p < q := by
  unfold ltS at h
  split at h
  · rename_i e; exact h3 e
  split at h
  · rename_i u hu
    split at h
    · rename_i l hl
      have := of_decide_eq_true h
      have := h1 u hu
      have := h2 l hl
      omega
    · cases h
  · cases h
theorem leS_le {a b : AV} {p q : Int} (h : leS a b = true) (h1 : ∀ u, hiA a = some u → p ≤ u) (h2 : ∀ l, loA b = some l → l ≤ q) (h3 : ltP a b = true → p < q) (h4 : sameS a b = true → p = q) : p ≤ q := by
  unfold leS at h
  split at h
  · rename_i e
    rw [Bool.or_eq_true] at e
    rcases e with e | e
    · have := h3 e; omega
    · have := h4 e; omega
  split at h
  · rename_i u hu
    split at h
    · rename_i l hl
      have := of_decide_eq_true h
      have := h1 u hu
      have := h2 l hl
      omega
    · cases h
  · cases h
theorem pickS_iff {t f r : Bool} (h : pickS t f = some r) : (t = true ∧ r = true) ∨ (f = true ∧ r = false) := by
  cases t <;> cases f <;> simp_all [pickS]
theorem sym_ok {op : BinOp} {a b : AV} {r : Bool} (h : symB op a b = some r) (t : TypeId) (x y : Operand) :
    (do eqGuard op t x y (den E a) (den E b); binOp op t (den E a) (den E b)).run P w = .ok (.bool r) w := by
  unfold symB at h
  split at h
  · rename_i hk
    have hg : (eqGuard op t x y (den E a) (den E b)).run P w = .ok () w := guard_ok op t x y a b (fun e => by subst e; simp [symK] at hk) (fun l m e => by subst e; simp [symK] at hk)
    rw [Sem.run_bind, hg, Result.andThen_ok]
    obtain ⟨k, p, q, ea, eb, la, ua, lb, ub, hsm, hlt, hgt⟩ := sym_int (E := E) hk
    have hsm' : sameS b a = true → q = p := fun h => (hsm (by rw [sameS_comm]; exact h)).symm
    rw [ea, eb]
    have go : ∀ {o : BinOp} {z : Bool}, intBin o k p q = some (.b z) → o ≠ .shl ∧ o ≠ .shr → (binOp o t (.int k p) (.int k q)).run P w = .ok (.bool z) w := fun hi hne => (int_ok (E := E) (n := 0) hi t hne).1
    split at h
    · refine go ?_ (by decide)
      rcases pickS_iff h with ⟨h1, rfl⟩ | ⟨h1, rfl⟩
      · have := ltS_lt h1 ua lb hlt; simp [intBin]; omega
      · have := leS_le h1 ub la hgt hsm'; simp [intBin]; omega
    · refine go ?_ (by decide)
      rcases pickS_iff h with ⟨h1, rfl⟩ | ⟨h1, rfl⟩
      · have := leS_le h1 ua lb hlt hsm; simp [intBin]; omega
      · have := ltS_lt h1 ub la hgt; simp [intBin]; omega
    · refine go ?_ (by decide)
      rcases pickS_iff h with ⟨h1, rfl⟩ | ⟨h1, rfl⟩
      · have := ltS_lt h1 ub la hgt; simp [intBin]; omega
      · have := leS_le h1 ua lb hlt hsm; simp [intBin]; omega
    · refine go ?_ (by decide)
      rcases pickS_iff h with ⟨h1, rfl⟩ | ⟨h1, rfl⟩
      · have := leS_le h1 ub la hgt hsm'; simp [intBin]; omega
      · have := ltS_lt h1 ua lb hlt; simp [intBin]; omega
    · refine go ?_ (by decide)
      rcases pickS_iff h with ⟨h1, rfl⟩ | ⟨h1, rfl⟩
      · have := hsm h1; simp [intBin, this]
      · have : p ≠ q := by
          rcases Bool.or_eq_true_iff.1 h1 with h1 | h1
          · have := ltS_lt h1 ua lb hlt; omega
          · have := ltS_lt h1 ub la hgt; omega
        simp [intBin, this]
    · split at h
      · rename_i r' hr
        simp only [Option.some.injEq] at h
        subst h
        refine go ?_ (by decide)
        rcases pickS_iff hr with ⟨h1, rfl⟩ | ⟨h1, rfl⟩
        · have := hsm h1; simp [intBin, this]
        · have : p ≠ q := by
            rcases Bool.or_eq_true_iff.1 h1 with h1 | h1
            · have := ltS_lt h1 ua lb hlt; omega
            · have := ltS_lt h1 ub la hgt; omega
          simp [intBin, this]
      · cases h
    · cases h
  · cases h
section ops
variable {ev : Operand → Option AV} {ρ : Operand → Value}
theorem bino_ok {op : BinOp} {t u : TypeId} {x y : Operand} {r : AR} {o : Oper} (hse : SeOk P se) (ho : o.op = .binOp op t x y u) (hR : Rep P E R n w) (hE : EvOk E n ev ρ) (h : aBin P se ev R op t x y = some r) : ROk P E R n w r ((execOp ρ o).run P w) := by
  unfold aBin at h
  split at h
  · rename_i a ha
    split at h
    · rename_i b hb
      split at h
      · rename_i r' hs
        simp only [Option.some.injEq] at h; subst h
        exact .pure hR (by simp only [execOp, ho, (hE _ _ ha).1, (hE _ _ hb).1]; exact run_v_ok (sym_ok hs t x y)) trivial
      refine v1_ok hR h fun v hv => ?_
      have := bin_ok hse hR hv
      refine ⟨?_, this.2⟩
      simp only [execOp, ho, (hE _ _ ha).1, (hE _ _ hb).1]
      exact run_v_ok this.1
    · cases h
  · cases h
theorem uno_ok {op : UnOp} {t : TypeId} {x : Operand} {r : AR} {o : Oper} (ho : o.op = .unOp op t x) (hR : Rep P E R n w) (hE : EvOk E n ev ρ) (h : aUn ev op x = some r) : ROk P E R n w r ((execOp ρ o).run P w) := by
  unfold aUn at h
  split at h
  · rename_i hx
    simp only [Option.some.injEq] at h; subst h
    exact .pure hR (by simp [execOp, ho, (hE _ _ hx).1, den, Op.unary, Op.intArith, wr_eq]) trivial
  · rename_i hx
    simp only [Option.some.injEq] at h; subst h
    exact .pure hR (by simp [execOp, ho, (hE _ _ hx).1, den, Op.unary]) trivial
  · cases h
end ops
end
end Go.Proofs.YtgooihjcaoajnaaGreat.Ev
