/- The evaluator's values and blocks, as the program's: what it means that a world is as they say. -/
import Derived.Test.YtgooihjcaoajnaaGreatEa
import Derived.Below
import Derived.Laws.CopyRow
import Derived.Laws.Cells
import Derived.Laws.StructEq
import Derived.LaidEqlPtr
import Derived.Deep.MidRow
set_option linter.unusedVariables false
set_option linter.unusedSimpArgs false
namespace Go.Proofs.YtgooihjcaoajnaaGreat.Ev
open Go Go.RowKit

structure En where
  ρ : Nat → Nat
  κ : Nat → Nat
  σ : Nat → Int
  dom : ∀ j, (∀ l, (domS j).1 = some l → l ≤ σ j) ∧ (∀ h, (domS j).2 = some h → σ j ≤ h)
  ord : ∀ j, pairS j = true → σ j < σ (j + 1)

/-- the symbols' values, and each where it has to lie -/
def DomOk (σ : Nat → Int) : Prop := (∀ j, (∀ l, (domS j).1 = some l → l ≤ σ j) ∧ (∀ h, (domS j).2 = some h → σ j ≤ h)) ∧ ∀ j, pairS j = true → σ j < σ (j + 1)
/-- values as asked for; where one would not lie where it has to, another -/
def inB (j : Nat) (x : Int) : Bool := (match (domS j).1 with | some l => decide (l ≤ x) | none => true) && (match (domS j).2 with | some h => decide (x ≤ h) | none => true)
def clipS (f : Nat → Int) (j : Nat) : Int := match inB j (f j) with
  | true => f j
  | false => match (domS j).1 with
    | some l => l
    | none => match (domS j).2 with
      | some h => h
      | none => 0
def okP (f : Nat → Int) (p : Nat) : Bool := inB p (f p) && (inB (p + 1) (f (p + 1)) && decide (f p < f (p + 1)))
def sgOf (f : Nat → Int) (j : Nat) : Int := match pairS j with
  | true => (match okP f j with
    | true => f j
    | false => (domS j).1.getD 0)
  | false => (match pairS (j - 1) with
    | true => (match okP f (j - 1) with
      | true => f j
      | false => (domS j).2.getD 1)
    | false => clipS f j)
theorem domS_le (j : Nat) (l h : Int) (h1 : (domS j).1 = some l) (h2 : (domS j).2 = some h) : l ≤ h := by
  unfold domS at h1 h2
  split at h1
  · rename_i e
    rw [e] at h2
    dsimp only at h2
    split at h1 <;> simp_all <;> omega
  · rename_i e
    rw [e] at h2
    dsimp only at h2
    split at h1
    · cases h1
    · rename_i l0 e1
      rw [e1] at h2
      dsimp only at h2
      split at h1
      · rename_i e2; rw [e2] at h2; cases h2
      · rename_i h0 e2
        rw [e2] at h2
        dsimp only at h2
        split at h1
        · rename_i e3
          rw [e3] at h2
          cases h1; cases h2
          exact of_decide_eq_true e3
        · cases h1
theorem pairS_iff {j : Nat} (h : pairS j = true) : 1000000 ≤ j ∧ j % 2 = 0 ∧ ((∃ l u, domS j = (some l, some u) ∧ l < u) ∨ domS j = (none, none)) := by
  unfold pairS at h
  split at h
  · cases h
  · rename_i e
    have hj : 1000000 ≤ j := by
      rcases Nat.lt_or_ge j 1000000 with hl | hl
      · have : Nat.blt j 1000000 = true := Nat.ble_eq_true_of_le hl
        rw [this] at e; cases e
      · exact hl
    split at h
    · rename_i e2
      rw [Bool.and_eq_true] at e2
      split at h
      · rename_i l u e3
        exact ⟨hj, Nat.eq_of_beq_eq_true e2.2, .inl ⟨l, u, e3, of_decide_eq_true h⟩⟩
      · rename_i e3
        exact ⟨hj, Nat.eq_of_beq_eq_true e2.2, .inr e3⟩
      · cases h
    · cases h
theorem domS_next {j : Nat} (h1 : 1000000 ≤ j) (h2 : j % 2 = 0) : domS (j + 1) = domS j := by
  have e1 : Nat.blt j 1000000 = false := by
    cases e : Nat.blt j 1000000 with
    | false => rfl
    | true => have := Nat.le_of_ble_eq_true e; omega
  have e2 : Nat.blt (j + 1) 1000000 = false := by
    cases e : Nat.blt (j + 1) 1000000 with
    | false => rfl
    | true => have := Nat.le_of_ble_eq_true e; omega
  have e3 : (j + 1) / 1000000 = j / 1000000 := by omega
  unfold domS
  rw [e1, e2, e3]
theorem pairS_next {j : Nat} (h : pairS j = true) : pairS (j + 1) = false := by
  obtain ⟨h1, h2, -⟩ := pairS_iff h
  cases e : pairS (j + 1) with
  | false => rfl
  | true =>
    obtain ⟨-, h3, -⟩ := pairS_iff e
    omega
theorem inB_iff {j : Nat} {x : Int} (e : inB j x = true) : (∀ l, (domS j).1 = some l → l ≤ x) ∧ (∀ h, (domS j).2 = some h → x ≤ h) := by
  simp only [inB, Bool.and_eq_true] at e
  refine ⟨fun l hl => ?_, fun h hh => ?_⟩
  · rw [hl] at e; simpa using e.1
  · rw [hh] at e; simpa using e.2
theorem clipS_ok (f : Nat → Int) (j : Nat) : (∀ l, (domS j).1 = some l → l ≤ clipS f j) ∧ (∀ h, (domS j).2 = some h → clipS f j ≤ h) := by
  have hd := domS_le j
  unfold clipS
  cases e : inB j (f j) with
  | true => exact inB_iff e
  | false =>
    cases h1 : (domS j).1 with
    | some l =>
      refine ⟨fun l' hl => ?_, fun h hh => ?_⟩
      · cases hl; exact Int.le_refl _
      · exact hd l h h1 hh
    | none =>
      cases h2 : (domS j).2 with
      | some h => exact ⟨fun l' hl => (by cases hl), fun h' hh => by cases hh; exact Int.le_refl _⟩
      | none => exact ⟨fun l' hl => (by cases hl), fun h' hh => by cases hh⟩
theorem okP_iff {f : Nat → Int} {p : Nat} (h : okP f p = true) : inB p (f p) = true ∧ inB (p + 1) (f (p + 1)) = true ∧ f p < f (p + 1) := by
  simp only [okP, Bool.and_eq_true] at h
  exact ⟨h.1, h.2.1, of_decide_eq_true h.2.2⟩
theorem sgOf_ok (f : Nat → Int) : DomOk (sgOf f) := by
  refine ⟨fun j => ?_, fun j hj => ?_⟩
  · unfold sgOf
    cases e : pairS j with
    | true =>
      obtain ⟨-, -, hd⟩ := pairS_iff e
      cases e2 : okP f j with
      | true => exact inB_iff (okP_iff e2).1
      | false =>
        rcases hd with ⟨l, u, hd, hlu⟩ | hd
        · rw [hd]
          exact ⟨fun l' hl => by cases hl; exact Int.le_refl _, fun h hh => by cases hh; exact Int.le_of_lt hlu⟩
        · rw [hd]
          exact ⟨fun l' hl => (by cases hl), fun h hh => (by cases hh)⟩
    | false =>
      cases e1 : pairS (j - 1) with
      | true =>
        obtain ⟨h1, h2, hd⟩ := pairS_iff e1
        have hn := domS_next h1 h2
        have hj : j - 1 + 1 = j := by clear hd; omega
        cases e2 : okP f (j - 1) with
        | true =>
          have := inB_iff (okP_iff e2).2.1
          rw [hj] at this
          exact this
        | false =>
          rw [hj] at hn
          rcases hd with ⟨l, u, hd, hlu⟩ | hd
          · rw [hn, hd]
            exact ⟨fun l' hl => by cases hl; exact Int.le_of_lt hlu, fun h hh => by cases hh; exact Int.le_refl _⟩
          · rw [hn, hd]
            exact ⟨fun l' hl => (by cases hl), fun h hh => (by cases hh)⟩
      | false => exact clipS_ok f j
  · have hn := pairS_next hj
    obtain ⟨h1, h2, hd⟩ := pairS_iff hj
    have hd2 := domS_next h1 h2
    unfold sgOf
    rw [hj, hn, Nat.add_sub_cancel, hj]
    dsimp only
    cases e2 : okP f j with
    | true => exact (okP_iff e2).2.2
    | false =>
      rcases hd with ⟨l, u, hd, hlu⟩ | hd
      · rw [hd2, hd]
        exact hlu
      · rw [hd2, hd]
        show (0 : Int) < 1
        decide
theorem sgOf_eq {f : Nat → Int} {j : Nat} (h : inB j (f j) = true) (h1 : pairS j = false := by rfl) (h2 : pairS (j - 1) = false := by rfl) : sgOf f j = f j := by unfold sgOf; rw [h1, h2]; dsimp only; unfold clipS; rw [h]
def loOk : Option Int → Int → Prop
  | none, _ => True
  | some l, x => l ≤ x
def hiOk : Option Int → Int → Prop
  | none, _ => True
  | some h, x => x ≤ h
theorem inB_of {j : Nat} {x : Int} {L H : Option Int} (hd : domS j = (L, H)) (h1 : loOk L x) (h2 : hiOk H x) : inB j x = true := by
  unfold inB
  rw [hd]
  cases L <;> cases H <;> simp_all [loOk, hiOk]
theorem sgOf_at {f : Nat → Int} (j : Nat) {a : Int} {L H : Option Int} (hf : f j = a) (p1 : pairS j = false) (p2 : pairS (j - 1) = false) (hd : domS j = (L, H)) (h1 : loOk L a) (h2 : hiOk H a) : sgOf f j = a := by
  have := sgOf_eq (f := f) (j := j) (by rw [hf]; exact inB_of hd h1 h2) p1 p2
  rw [this, hf]
theorem sgOf_two {f : Nat → Int} (j k : Nat) (hk : k = j + 1) {a b : Int} {L H : Option Int} (hf : f j = a) (hg : f k = b) (p1 : pairS j = true) (hd : domS j = (L, H)) (h1 : loOk L a) (h2 : hiOk H a) (h3 : loOk L b) (h4 : hiOk H b) (hab : a < b) : sgOf f j = a ∧ sgOf f k = b := by
  subst hk
  obtain ⟨i1, i2, -⟩ := pairS_iff p1
  have hd2 := domS_next i1 i2
  have e : okP f j = true := by
    unfold okP
    rw [hf, hg, inB_of hd h1 h2, inB_of (hd2.trans hd) h3 h4, decide_eq_true hab]
    rfl
  have hn := pairS_next p1
  unfold sgOf
  rw [p1, hn, Nat.add_sub_cancel, p1]
  dsimp only
  rw [e]
  exact ⟨hf, hg⟩

/-- where a slice lies; an empty one cut off a row that has grown: as its room says -/
def offP (B k o c : Nat) : Nat := match Nat.blt o B with
  | true => o
  | false => match Nat.beq k c with
    | true => o % B
    | false => o / B
theorem blt_lt {a b : Nat} (h : Nat.blt a b = true) : a < b := Nat.le_of_ble_eq_true h
theorem offP_pair {B q d k l cap : Nat} (hq : q < B) (hl : l ≠ 0) (hd : d = 0 → q = 0) : offP B k (q + d * B) (cap + l) = if k - cap = l then q else d := by
  unfold offP
  split
  · rename_i hb
    have hb := blt_lt hb
    have e : d = 0 := by
      rcases Nat.eq_zero_or_pos d with h | h
      · exact h
      · have := Nat.le_mul_of_pos_left B h; omega
    subst e
    have := hd rfl
    subst this
    simp
  · split
    · rename_i hk
      have hk := Nat.eq_of_beq_eq_true hk
      rw [if_pos (by omega), Nat.add_mul_mod_self_right, Nat.mod_eq_of_lt hq]
    · rename_i hk
      have hk : k ≠ cap + l := fun e => by rw [e, Nat.beq_refl] at hk; cases hk
      rw [if_neg (by omega), Nat.add_mul_div_right _ _ (by omega), Nat.div_eq_of_lt hq, Nat.zero_add]
def offD (k o n c : Nat) (op : Bool) : Nat := match op with
  | false => o
  | true => match n with
    | 0 => offP 18446744073709551616 k o c
    | _ + 1 => o
theorem offD_ok {k o n c : Nat} {op : Bool} (h : okO op n o = true) : offD k o n c op = o := by
  cases op
  · rfl
  · cases n
    · simp only [okO] at h
      simp only [offD, offP, h]
    · rfl
@[simp] theorem offD_zero (k n c : Nat) (op : Bool) : offD k 0 n c op = 0 := offD_ok (by cases op <;> cases n <;> rfl)
@[simp] theorem offD_false (k o n c : Nat) : offD k o n c false = o := rfl
@[simp] theorem offD_succ (k o n c : Nat) (op : Bool) : offD k o (n + 1) c op = o := offD_ok (by cases op <;> rfl)
theorem okO_add {op : Bool} {n o k : Nat} (h : okO op n o = true) : okO op (n + k) o = true := by
  cases op
  · rfl
  · cases n
    · cases k
      · exact h
      · rfl
    · rw [Nat.add_right_comm]; rfl
mutual
def den (E : En) : AV → Value
  | .i k n => .int k n
  | .b x => .bool x
  | .s x => .string ⟨⟨x⟩⟩
  | .p g o => .pointer (some ⟨E.ρ g, o, none⟩)
  | .np => .pointer none
  | .sl g o n c op => .slice (some ⟨E.ρ g, offD (E.κ g) o n c op, none⟩) n (match op with | true => E.κ g - c | false => c)
  | .ns => .slice none 0 0
  | .m g => .map (some (E.ρ g))
  | .nm => .map none
  | .f fn a c => .func (.func fn) ⟨denL E a⟩ ⟨denL E c⟩
  | .nf => .nilFunc
  | .ie t v => .iface t (den E v)
  | .ni => .nilIface
  | .ag l => .agg ⟨denL E l⟩
  | .tu l => .tuple ⟨denL E l⟩
  | .y k j => .int k (E.σ j)
def denL (E : En) : List AV → List Value
  | [] => []
  | v :: l => den E v :: denL E l
end
theorem den_sl {E : En} {g o n c : Nat} {op : Bool} (h : okO op n o = true) : den E (.sl g o n c op) = .slice (some ⟨E.ρ g, o, none⟩) n (match (generalizing := false) op with | true => E.κ g - c | false => c) := by
  simp only [den]; rw [offD_ok h]
@[simp] theorem denL_eq (E : En) : ∀ l, denL E l = l.map (den E)
  | [] => rfl
  | v :: l => by simp [denL, denL_eq E l]
mutual
/-- all blocks in a value are below n -/
def AV.bd (n : Nat) : AV → Prop
  | .p g _ => g < n
  | .sl g _ _ _ _ => g < n
  | .m g => g < n
  | .f _ a c => bdL n a ∧ bdL n c
  | .ie _ v => v.bd n
  | .ag l => bdL n l
  | .tu l => bdL n l
  | _ => True
def bdL (n : Nat) : List AV → Prop
  | [] => True
  | v :: l => v.bd n ∧ bdL n l
end
@[simp] theorem bdL_iff {n : Nat} : ∀ {l}, bdL n l ↔ ∀ v ∈ l, AV.bd n v
  | [] => by simp [bdL]
  | v :: l => by simp [bdL, bdL_iff (l := l)]
mutual
theorem AV.bd_mono {n m : Nat} (h : n ≤ m) : ∀ {v : AV}, v.bd n → v.bd m
  | .i .., _ => trivial
  | .b _, _ => trivial
  | .s _, _ => trivial
  | .p .., hv => Nat.lt_of_lt_of_le hv h
  | .np, _ => trivial
  | .sl .., hv => Nat.lt_of_lt_of_le hv h
  | .ns, _ => trivial
  | .m _, hv => Nat.lt_of_lt_of_le hv h
  | .nm, _ => trivial
  | .f .., hv => ⟨bdL_mono h hv.1, bdL_mono h hv.2⟩
  | .nf, _ => trivial
  | .ie _ v, hv => AV.bd_mono h (v := v) hv
  | .ni, _ => trivial
  | .ag l, hv => bdL_mono h (l := l) hv
  | .tu l, hv => bdL_mono h (l := l) hv
  | .y .., _ => trivial
theorem bdL_mono {n m : Nat} (h : n ≤ m) : ∀ {l : List AV}, bdL n l → bdL m l
  | [], _ => trivial
  | v :: l, hv => ⟨AV.bd_mono h hv.1, bdL_mono h hv.2⟩
end
/-- the one is the other as far as blocks below n go -/
structure Ext (n : Nat) (E E' : En) : Prop where
  ρ : ∀ g, g < n → E'.ρ g = E.ρ g
  κ : ∀ g, g < n → E'.κ g = E.κ g
  σ : E'.σ = E.σ
theorem Ext.refl (n : Nat) (E : En) : Ext n E E := ⟨fun _ _ => rfl, fun _ _ => rfl, rfl⟩
theorem Ext.trans {n m : Nat} {E E' E'' : En} (h : Ext n E E') (k : Ext m E' E'') (hn : n ≤ m) : Ext n E E'' :=
  ⟨fun g hg => (k.ρ g (by omega)).trans (h.ρ g hg), fun g hg => (k.κ g (by omega)).trans (h.κ g hg), k.σ.trans h.σ⟩
mutual
theorem den_ext {n : Nat} {E E' : En} (h : Ext n E E') : ∀ {v : AV}, v.bd n → den E' v = den E v
  | .i .., _ => rfl
  | .b _, _ => rfl
  | .s _, _ => rfl
  | .p g o, hv => by simp only [den]; rw [h.ρ g hv]
  | .np, _ => rfl
  | .sl g o n c op, hv => by simp only [den]; rw [h.ρ g hv, h.κ g hv]
  | .ns, _ => rfl
  | .m g, hv => by simp only [den]; rw [h.ρ g hv]
  | .nm, _ => rfl
  | .f fn a c, hv => by simp only [den]; rw [denL_ext h hv.1, denL_ext h hv.2]
  | .nf, _ => rfl
  | .ie t v, hv => by simp only [den]; rw [den_ext h (v := v) hv]
  | .ni, _ => rfl
  | .ag l, hv => by simp only [den]; rw [denL_ext h (l := l) hv]
  | .tu l, hv => by simp only [den]; rw [denL_ext h (l := l) hv]
  | .y k j, _ => by simp only [den]; rw [h.σ]
theorem denL_ext {n : Nat} {E E' : En} (h : Ext n E E') : ∀ {l : List AV}, bdL n l → denL E' l = denL E l
  | [], _ => rfl
  | v :: l, hv => by simp only [denL]; rw [den_ext h hv.1, denL_ext h hv.2]
end
theorem map_ext {n : Nat} {E E' : En} (h : Ext n E E') {l : List AV} (hl : ∀ v ∈ l, AV.bd n v) : l.map (den E') = l.map (den E) :=
  List.map_congr_left fun v hv => den_ext h (hl v hv)

/-! ### Constants -/
mutual
theorem ofV_ok (E : En) (n : Nat) : ∀ {v : Value} {a : AV}, ofV v = some a → den E a = v ∧ a.bd n
  | .bool x, a, h => by simp only [ofV, Option.some.injEq] at h; subst h; exact ⟨rfl, trivial⟩
  | .int k m, a, h => by simp only [ofV, Option.some.injEq] at h; subst h; exact ⟨rfl, trivial⟩
  | .float .., a, h => by simp [ofV] at h
  | .complex .., a, h => by simp [ofV] at h
  | .string ⟨⟨x⟩⟩, a, h => by simp only [ofV, Option.some.injEq] at h; subst h; exact ⟨rfl, trivial⟩
  | .pointer none, a, h => by simp only [ofV, Option.some.injEq] at h; subst h; exact ⟨rfl, trivial⟩
  | .pointer (some _), a, h => by simp [ofV] at h
  | .slice (some _) _ _, a, h => by simp [ofV] at h
  | .slice none 0 0, a, h => by simp only [ofV, Option.some.injEq] at h; subst h; exact ⟨rfl, trivial⟩
  | .slice none (_ + 1) _, a, h => by simp [ofV] at h
  | .slice none 0 (_ + 1), a, h => by simp [ofV] at h
  | .map none, a, h => by simp only [ofV, Option.some.injEq] at h; subst h; exact ⟨rfl, trivial⟩
  | .map (some _), a, h => by simp [ofV] at h
  | .chan _, a, h => by simp [ofV] at h
  | .func (.func f) ⟨[]⟩ ⟨[]⟩, a, h => by simp only [ofV, Option.some.injEq] at h; subst h; exact ⟨rfl, trivial, trivial⟩
  | .func (.func f) ⟨_ :: _⟩ _, a, h => by simp [ofV] at h
  | .func (.func f) ⟨[]⟩ ⟨_ :: _⟩, a, h => by simp [ofV] at h
  | .func (.method _) _ _, a, h => by simp [ofV] at h
  | .func (.methodOf ..) _ _, a, h => by simp [ofV] at h
  | .func (.via ..) _ _, a, h => by simp [ofV] at h
  | .func (.yield _) _ _, a, h => by simp [ofV] at h
  | .nilFunc, a, h => by simp only [ofV, Option.some.injEq] at h; subst h; exact ⟨rfl, trivial⟩
  | .iface .., a, h => by simp [ofV] at h
  | .nilIface, a, h => by simp only [ofV, Option.some.injEq] at h; subst h; exact ⟨rfl, trivial⟩
  | .agg ⟨l⟩, a, h => by
    simp only [ofV] at h
    split at h
    · rename_i r hr
      simp only [Option.some.injEq] at h
      subst h
      have := ofVs_ok E n hr
      exact ⟨by simp only [den]; rw [this.1], this.2⟩
    · cases h
  | .tuple ⟨l⟩, a, h => by
    simp only [ofV] at h
    split at h
    · rename_i r hr
      simp only [Option.some.injEq] at h
      subst h
      have := ofVs_ok E n hr
      exact ⟨by simp only [den]; rw [this.1], this.2⟩
    · cases h
theorem ofVs_ok (E : En) (n : Nat) : ∀ {l : List Value} {r : List AV}, ofV.go l = some r → denL E r = l ∧ bdL n r
  | [], r, h => by simp only [ofV.go, Option.some.injEq] at h; subst h; exact ⟨rfl, trivial⟩
  | v :: l, r, h => by
    simp only [ofV.go] at h
    split at h
    · rename_i a ha
      split at h
      · rename_i r' hr
        simp only [Option.some.injEq] at h
        subst h
        have h1 := ofV_ok E n ha
        have h2 := ofVs_ok E n hr
        exact ⟨by simp only [denL]; rw [h1.1, h2.1], h1.2, h2.2⟩
      · cases h
    · cases h
end

/-! ### The trie -/
theorem T.get_put {α : Type} (x : Option α) : ∀ (f : Nat) (t : T α) (k j : Nat), k + 1 < 2 ^ f → (T.put f t k x).get j = if j = k then x else t.get j
  | 0, t, k, j, h => by simp at h
  | f + 1, .e, 0, j, h => by
    cases j with
    | zero => simp [T.put, T.get]
    | succ j => simp only [T.put, T.get]; cases Nat.beq (Nat.mod j 2) 0 <;> simp
  | f + 1, .e, k + 1, j, h => by
    have hk : k / 2 + 1 < 2 ^ f := by rw [Nat.pow_succ] at h; omega
    have e1 : Nat.mod k 2 = k % 2 := rfl
    have e2 : Nat.div k 2 = k / 2 := rfl
    cases hb : Nat.beq (Nat.mod k 2) 0 with
    | true =>
      have hb' := Nat.eq_of_beq_eq_true hb
      simp only [T.put, hb]
      cases j with
      | zero => simp [T.get]
      | succ j =>
        simp only [T.get]
        cases hj : Nat.beq (Nat.mod j 2) 0 with
        | true =>
          have hj' := Nat.eq_of_beq_eq_true hj
          simp only [T.get_put x f .e (Nat.div k 2) (Nat.div j 2) hk, T.get]
          have : (Nat.div j 2 = Nat.div k 2) ↔ j + 1 = k + 1 := by
            show j / 2 = k / 2 ↔ _
            have : k % 2 = 0 := hb'
            have : j % 2 = 0 := hj'
            omega
          simp only [this]
        | false =>
          have hj' := Nat.ne_of_beq_eq_false hj
          simp only [T.get]
          have : ¬ (j + 1 = k + 1) := by
            have h1 : k % 2 = 0 := hb'
            have h2 : j % 2 ≠ 0 := hj'
            omega
          rw [if_neg this]
    | false =>
      have hb' := Nat.ne_of_beq_eq_false hb
      simp only [T.put, hb]
      cases j with
      | zero => simp [T.get]
      | succ j =>
        simp only [T.get]
        cases hj : Nat.beq (Nat.mod j 2) 0 with
        | true =>
          have hj' := Nat.eq_of_beq_eq_true hj
          simp only [T.get]
          have : ¬ (j + 1 = k + 1) := by
            have h1 : k % 2 ≠ 0 := hb'
            have h2 : j % 2 = 0 := hj'
            omega
          rw [if_neg this]
        | false =>
          have hj' := Nat.ne_of_beq_eq_false hj
          simp only [T.get_put x f .e (Nat.div k 2) (Nat.div j 2) hk, T.get]
          have : (Nat.div j 2 = Nat.div k 2) ↔ j + 1 = k + 1 := by
            show j / 2 = k / 2 ↔ _
            have : k % 2 ≠ 0 := hb'
            have : j % 2 ≠ 0 := hj'
            omega
          simp only [this]
  | f + 1, .n l v r, 0, j, h => by
    cases j <;> simp [T.put, T.get]
  | f + 1, .n l v r, k + 1, j, h => by
    have hk : k / 2 + 1 < 2 ^ f := by rw [Nat.pow_succ] at h; omega
    cases hb : Nat.beq (Nat.mod k 2) 0 with
    | true =>
      have hb' := Nat.eq_of_beq_eq_true hb
      simp only [T.put, hb]
      cases j with
      | zero => simp [T.get]
      | succ j =>
        simp only [T.get]
        cases hj : Nat.beq (Nat.mod j 2) 0 with
        | true =>
          have hj' := Nat.eq_of_beq_eq_true hj
          simp only [T.get_put x f l (Nat.div k 2) (Nat.div j 2) hk]
          have : (Nat.div j 2 = Nat.div k 2) ↔ j + 1 = k + 1 := by
            show j / 2 = k / 2 ↔ _
            have : k % 2 = 0 := hb'
            have : j % 2 = 0 := hj'
            omega
          simp only [this]
        | false =>
          have hj' := Nat.ne_of_beq_eq_false hj
          have : ¬ (j + 1 = k + 1) := by
            have h1 : k % 2 = 0 := hb'
            have h2 : j % 2 ≠ 0 := hj'
            omega
          rw [if_neg this]
    | false =>
      have hb' := Nat.ne_of_beq_eq_false hb
      simp only [T.put, hb]
      cases j with
      | zero => simp [T.get]
      | succ j =>
        simp only [T.get]
        cases hj : Nat.beq (Nat.mod j 2) 0 with
        | true =>
          have hj' := Nat.eq_of_beq_eq_true hj
          have : ¬ (j + 1 = k + 1) := by
            have h1 : k % 2 ≠ 0 := hb'
            have h2 : j % 2 = 0 := hj'
            omega
          rw [if_neg this]
        | false =>
          have hj' := Nat.ne_of_beq_eq_false hj
          simp only [T.get_put x f r (Nat.div k 2) (Nat.div j 2) hk]
          have : (Nat.div j 2 = Nat.div k 2) ↔ j + 1 = k + 1 := by
            show j / 2 = k / 2 ↔ _
            have : k % 2 ≠ 0 := hb'
            have : j % 2 ≠ 0 := hj'
            omega
          simp only [this]

/-! ### Worlds -/
def AO.bd (n : Nat) : AO → Prop
  | .cells _ cs _ => ∀ v ∈ cs, AV.bd n v
  | .map es _ => ∀ e ∈ es, AV.bd n e.1 ∧ AV.bd n e.2.1
  | .iter m _ => m < n
def denE (E : En) (e : AV × AV × Nat) : MapEntry := { key := den E e.1, val := den E e.2.1, born := e.2.2 }
/-- the block of that number is as the evaluator has it -/
def OB (P : Program) (E : En) (g : Nat) (w : World) : AO → Prop
  | .cells t cs op => ∃ rest : List Value, w.heap[E.ρ g]? = some (.cells (cs.map (den E) ++ rest).toArray t (0, 0)) ∧
      (op = false → rest = []) ∧ (op = true → ∃ z, sizeT P t = some z ∧ 0 < z ∧ cs.length + rest.length = E.κ g * z)
  | .map es cl => w.heap[E.ρ g]? = some (.map (es.map (denE E)).toArray cl)
  | .iter m cl => w.heap[E.ρ g]? = some (.mapIter (some (E.ρ m)) cl #[] cl)
structure Rep (P : Program) (E : En) (R : Rd) (n : Nat) (w : World) : Prop where
  obj : ∀ g o, R g = some o → OB P E g w o
  bd : ∀ g o, R g = some o → g < n ∧ o.bd n
  inj : ∀ g h o o', R g = some o → R h = some o' → E.ρ g = E.ρ h → g = h
/-- from one state to a later one -/
structure Stp (E : En) (R : Rd) (n : Nat) (w : World) (E' : En) (R' : Rd) (n' : Nat) (w' : World) : Prop where
  ext : Ext n E E'
  le : n ≤ n'
  os : w'.os = w.os
  tape : w'.tape = w.tape
  output : w'.output = w.output
  size : w.heap.size ≤ w'.heap.size
  keep : ∀ b, b < w.heap.size → (∀ g o, R g = some o → E.ρ g ≠ b) → w'.heap[b]? = w.heap[b]?
  src : ∀ g o, R' g = some o → w.heap.size ≤ E'.ρ g ∨ ∃ h o', R h = some o' ∧ E.ρ h = E'.ρ g
theorem Stp.refl (E : En) (R : Rd) (n : Nat) (w : World) : Stp E R n w E R n w :=
  ⟨Ext.refl _ _, Nat.le_refl _, rfl, rfl, rfl, Nat.le_refl _, fun _ _ _ => rfl, fun g o h => .inr ⟨g, o, h, rfl⟩⟩
theorem Stp.trans {E E' E'' : En} {R R' R'' : Rd} {n n' n'' : Nat} {w w' w'' : World} (h : Stp E R n w E' R' n' w') (k : Stp E' R' n' w' E'' R'' n'' w'') : Stp E R n w E'' R'' n'' w'' := by
  refine ⟨h.ext.trans k.ext h.le, Nat.le_trans h.le k.le, k.os.trans h.os, k.tape.trans h.tape, k.output.trans h.output, Nat.le_trans h.size k.size, ?_, ?_⟩
  · intro b hb hn
    rw [k.keep b (Nat.lt_of_lt_of_le hb h.size) ?_, h.keep b hb hn]
    intro g o hg e
    rcases h.src g o hg with h1 | ⟨q, o', hq, he⟩
    · omega
    · exact hn q o' hq (he.trans e)
  · intro g o hg
    rcases k.src g o hg with h1 | ⟨q, o', hq, he⟩
    · exact .inl (Nat.le_trans h.size h1)
    · rcases h.src q o' hq with h1 | ⟨q2, o2, hq2, he2⟩
      · exact .inl (by omega)
      · exact .inr ⟨q2, o2, hq2, he2.trans he⟩
/-- the same memory -/
structure SameMem (w w' : World) : Prop where
  heap : w'.heap = w.heap
  os : w'.os = w.os
  tape : w'.tape = w.tape
  output : w'.output = w.output
theorem OB.same {P : Program} {E : En} {g : Nat} {w w' : World} {o : AO} (h : OB P E g w o) (hs : w'.heap[E.ρ g]? = w.heap[E.ρ g]?) : OB P E g w' o := by
  cases o with
  | cells t cs op => obtain ⟨r, h1, h2⟩ := h; exact ⟨r, hs.trans h1, h2⟩
  | map es cl => exact hs.trans h
  | iter m cl => exact hs.trans h
theorem Rep.same {P : Program} {E : En} {R : Rd} {n : Nat} {w w' : World} (h : Rep P E R n w) (hs : w'.heap = w.heap) : Rep P E R n w' :=
  ⟨fun g o hg => (h.obj g o hg).same (by rw [hs]), h.bd, h.inj⟩
theorem Stp.same {E : En} {R : Rd} {n : Nat} {w w' : World} (h : SameMem w w') : Stp E R n w E R n w' :=
  ⟨Ext.refl _ _, Nat.le_refl _, h.os, h.tape, h.output, by rw [h.heap]; exact Nat.le_refl _, fun _ _ _ => by rw [h.heap], fun g o h => .inr ⟨g, o, h, rfl⟩⟩
theorem AO.bd_mono {n m : Nat} (h : n ≤ m) {o : AO} (ho : o.bd n) : o.bd m := by
  cases o with
  | cells t cs op => exact fun v hv => AV.bd_mono h (ho v hv)
  | map es cl => exact fun e he => ⟨AV.bd_mono h (ho e he).1, AV.bd_mono h (ho e he).2⟩
  | iter m cl => exact Nat.lt_of_lt_of_le ho h
theorem denE_ext {n : Nat} {E E' : En} (h : Ext n E E') {e : AV × AV × Nat} (he : AV.bd n e.1 ∧ AV.bd n e.2.1) : denE E' e = denE E e := by
  unfold denE; rw [den_ext h he.1, den_ext h he.2]
theorem OB.ext {P : Program} {n : Nat} {E E' : En} (h : Ext n E E') {g : Nat} {w : World} {o : AO} (hg : g < n) (hb : o.bd n) (ho : OB P E g w o) : OB P E' g w o := by
  cases o with
  | cells t cs op =>
    obtain ⟨r, h1, h2, h3⟩ := ho
    exact ⟨r, by rw [h.ρ g hg, map_ext h hb]; exact h1, h2, by rw [h.κ g hg]; exact h3⟩
  | map es cl =>
    show w.heap[E'.ρ g]? = _
    rw [h.ρ g hg, List.map_congr_left (fun e he => denE_ext h (hb e he))]
    exact ho
  | iter m cl =>
    show w.heap[E'.ρ g]? = _
    rw [h.ρ g hg, h.ρ m hb]
    exact ho
def effR (e : Eff) (R : Rd) (n : Nat) : Rd := match e with
  | .none => R
  | .new o => fun k => if k = n then some o else R k
  | .set g o => fun k => if k = g then some o else R k
  | .move g o => fun k => if k = n then some o else if k = g then none else R k
def effN (e : Eff) (n : Nat) : Nat := match e with
  | .none => n
  | .new _ => n + 1
  | .set _ _ => n
  | .move _ _ => n + 1
/-- a new block -/
theorem rep_new {P : Program} {E E' : En} {R : Rd} {n : Nat} {w w' : World} {o : AO} {ob : Obj} (h : Rep P E R n w) (hx : Ext n E E') (hρ : E'.ρ n = w.heap.size)
    (hw : w'.heap = w.heap.push ob) (ho : OB P E' n w' o) (hb : o.bd (n + 1)) : Rep P E' (effR (.new o) R n) (n + 1) w' := by
  have lt : ∀ g q, R g = some q → E.ρ g < w.heap.size := by
    intro g q hg
    have := h.obj g q hg
    cases q with
    | cells t cs op => obtain ⟨r, h1, -⟩ := this; exact (Array.getElem?_eq_some_iff.1 h1).1
    | map es cl => exact (Array.getElem?_eq_some_iff.1 this).1
    | iter m cl => exact (Array.getElem?_eq_some_iff.1 this).1
  refine ⟨?_, ?_, ?_⟩
  · intro g q hg
    simp only [effR] at hg
    split at hg
    · rename_i e
      simp only [Option.some.injEq] at hg
      subst hg; subst e
      exact ho
    · refine ((h.obj g q hg).ext hx (h.bd g q hg).1 (h.bd g q hg).2).same ?_
      have h1 := lt g q hg
      rw [hw, hx.ρ g (h.bd g q hg).1, Array.getElem?_push, if_neg (by omega)]
  · intro g q hg
    simp only [effR] at hg
    split at hg
    · rename_i e
      simp only [Option.some.injEq] at hg
      subst hg; subst e
      exact ⟨by omega, hb⟩
    · have := h.bd g q hg
      exact ⟨by omega, AO.bd_mono (by omega) this.2⟩
  · intro g k q q' hg hk he
    simp only [effR] at hg hk
    split at hg <;> split at hk
    · rename_i a b; omega
    · rename_i a b
      have h1 := lt k q' hk
      rw [a, hρ, hx.ρ k (h.bd k q' hk).1] at he
      omega
    · rename_i a b
      have h1 := lt g q hg
      rw [b, hρ, hx.ρ g (h.bd g q hg).1] at he
      omega
    · rw [hx.ρ g (h.bd g q hg).1, hx.ρ k (h.bd k q' hk).1] at he
      exact h.inj g k q q' hg hk he
theorem Rep.lt {P : Program} {E : En} {R : Rd} {n : Nat} {w : World} (h : Rep P E R n w) {g : Nat} {q : AO} (hg : R g = some q) : E.ρ g < w.heap.size := by
  have := h.obj g q hg
  cases q with
  | cells t cs op => obtain ⟨r, h1, -⟩ := this; exact (Array.getElem?_eq_some_iff.1 h1).1
  | map es cl => exact (Array.getElem?_eq_some_iff.1 this).1
  | iter m cl => exact (Array.getElem?_eq_some_iff.1 this).1
theorem stp_new {E E' : En} {R : Rd} {n : Nat} {w w' : World} {o : AO} {ob : Obj} (hx : Ext n E E') (hρ : E'.ρ n = w.heap.size) (hbd : ∀ g q, R g = some q → g < n)
    (hw : w'.heap = w.heap.push ob) (hos : w'.os = w.os) (htape : w'.tape = w.tape) (hout : w'.output = w.output) : Stp E R n w E' (effR (.new o) R n) (n + 1) w' := by
  refine ⟨hx, by omega, hos, htape, hout, by rw [hw]; simp, fun b hb _ => by rw [hw, Array.getElem?_push, if_neg (by omega)], ?_⟩
  intro g q hg
  simp only [effR] at hg
  split at hg
  · rename_i e
    exact .inl (by rw [e, hρ]; exact Nat.le_refl _)
  · exact .inr ⟨g, q, hg, by rw [hx.ρ g (hbd g q hg)]⟩
/-- a block becomes another -/
theorem rep_set {P : Program} {E : En} {R : Rd} {n : Nat} {w w' : World} {o q : AO} {g : Nat} (h : Rep P E R n w) (hg : R g = some q)
    (hw : ∀ b, b ≠ E.ρ g → w'.heap[b]? = w.heap[b]?) (ho : OB P E g w' o) (hb : o.bd n) : Rep P E (effR (.set g o) R n) n w' := by
  refine ⟨?_, ?_, ?_⟩
  · intro k q' hk
    simp only [effR] at hk
    split at hk
    · rename_i e
      simp only [Option.some.injEq] at hk
      subst hk; subst e
      exact ho
    · rename_i e
      exact (h.obj k q' hk).same (hw _ (fun e2 => e (h.inj k g q' q hk hg e2)))
  · intro k q' hk
    simp only [effR] at hk
    split at hk
    · rename_i e
      simp only [Option.some.injEq] at hk
      subst hk; subst e
      exact ⟨(h.bd k q hg).1, hb⟩
    · exact h.bd k q' hk
  · intro k j a b hk hj he
    simp only [effR] at hk hj
    have ok : ∃ a', R k = some a' := by
      split at hk
      · rename_i e; subst e; exact ⟨_, hg⟩
      · exact ⟨_, hk⟩
    have oj : ∃ a', R j = some a' := by
      split at hj
      · rename_i e; subst e; exact ⟨_, hg⟩
      · exact ⟨_, hj⟩
    obtain ⟨a', ha⟩ := ok
    obtain ⟨b', hb'⟩ := oj
    exact h.inj k j a' b' ha hb' he
theorem stp_set {P : Program} {E : En} {R : Rd} {n : Nat} {w w' : World} {o q : AO} {g : Nat} (hg : R g = some q)
    (hw : ∀ b, b ≠ E.ρ g → w'.heap[b]? = w.heap[b]?) (hz : w'.heap.size = w.heap.size) (hos : w'.os = w.os) (htape : w'.tape = w.tape) (hout : w'.output = w.output) :
    Stp E R n w E (effR (.set g o) R n) n w' := by
  refine ⟨Ext.refl _ _, Nat.le_refl _, hos, htape, hout, by omega, fun b hb hn => hw b (fun e => hn g q hg e.symm), ?_⟩
  intro k q' hk
  simp only [effR] at hk
  split at hk
  · rename_i e; subst e; exact .inr ⟨k, q, hg, rfl⟩
  · exact .inr ⟨k, q', hk, rfl⟩
/-- a block becomes another, in a new block or where it was -/
theorem rep_moved {P : Program} {E E' : En} {R : Rd} {n : Nat} {w w' : World} {o q : AO} {g : Nat} (h : Rep P E R n w) (hg : R g = some q) (hx : Ext n E E')
    (hρ : E'.ρ n = E.ρ g) (hw : ∀ b, b ≠ E.ρ g → w'.heap[b]? = w.heap[b]?) (ho : OB P E' n w' o) (hb : o.bd (n + 1)) : Rep P E' (effR (.move g o) R n) (n + 1) w' := by
  refine ⟨?_, ?_, ?_⟩
  · intro k q' hk
    simp only [effR] at hk
    split at hk
    · rename_i e
      simp only [Option.some.injEq] at hk
      subst hk; subst e
      exact ho
    · split at hk
      · cases hk
      · rename_i e e2
        refine ((h.obj k q' hk).ext hx (h.bd k q' hk).1 (h.bd k q' hk).2).same ?_
        rw [hx.ρ k (h.bd k q' hk).1]
        exact hw _ (fun e3 => e2 (h.inj k g q' q hk hg e3))
  · intro k q' hk
    simp only [effR] at hk
    split at hk
    · rename_i e
      simp only [Option.some.injEq] at hk
      subst hk; subst e
      exact ⟨by omega, hb⟩
    · split at hk
      · cases hk
      · have := h.bd k q' hk
        exact ⟨by omega, AO.bd_mono (by omega) this.2⟩
  · intro k j a b hk hj he
    simp only [effR] at hk hj
    split at hk <;> split at hj
    · rename_i x y; omega
    · split at hj
      · cases hj
      · rename_i x y y2
        rw [x, hρ, hx.ρ j (h.bd j b hj).1] at he
        exact absurd (h.inj j g b q hj hg he.symm) y2
    · split at hk
      · cases hk
      · rename_i x y x2
        rw [y, hρ, hx.ρ k (h.bd k a hk).1] at he
        exact absurd (h.inj k g a q hk hg he) x2
    · split at hk
      · cases hk
      · split at hj
        · cases hj
        · rw [hx.ρ k (h.bd k a hk).1, hx.ρ j (h.bd j b hj).1] at he
          exact h.inj k j a b hk hj he
theorem stp_moved {P : Program} {E E' : En} {R : Rd} {n : Nat} {w w' : World} {o q : AO} {g : Nat} (h : Rep P E R n w) (hg : R g = some q) (hx : Ext n E E')
    (hρ : E'.ρ n = E.ρ g) (hw : ∀ b, b ≠ E.ρ g → w'.heap[b]? = w.heap[b]?) (hz : w'.heap.size = w.heap.size) (hos : w'.os = w.os) (htape : w'.tape = w.tape) (hout : w'.output = w.output) :
    Stp E R n w E' (effR (.move g o) R n) (n + 1) w' := by
  refine ⟨hx, by omega, hos, htape, hout, by omega, fun b hb hn => hw b (fun e => hn g q hg e.symm), ?_⟩
  intro k q' hk
  simp only [effR] at hk
  split at hk
  · rename_i e; exact .inr ⟨g, q, hg, by rw [e, hρ]⟩
  · split at hk
    · cases hk
    · exact .inr ⟨k, q', hk, by rw [hx.ρ k (h.bd k q' hk).1]⟩
/-- what is left of a new block, the elder one forgotten -/
theorem rep_forget {P : Program} {E : En} {R : Rd} {n : Nat} {w : World} {o : AO} {g m : Nat} (h : Rep P E (effR (.new o) R m) n w) : Rep P E (effR (.move g o) R m) n w := by
  have sub : ∀ k q, effR (.move g o) R m k = some q → effR (.new o) R m k = some q := by
    intro k q hk
    simp only [effR] at hk ⊢
    split at hk
    · rename_i e; rw [if_pos e]; exact hk
    · rename_i e
      rw [if_neg e]
      split at hk
      · cases hk
      · exact hk
  exact ⟨fun k q hk => h.obj k q (sub k q hk), fun k q hk => h.bd k q (sub k q hk), fun k j a b hk hj => h.inj k j a b (sub k a hk) (sub j b hj)⟩
theorem stp_forget {E E' : En} {R : Rd} {n n' : Nat} {w w' : World} {o : AO} {g m : Nat} (h : Stp E R n w E' (effR (.new o) R m) n' w') : Stp E R n w E' (effR (.move g o) R m) n' w' := by
  refine ⟨h.ext, h.le, h.os, h.tape, h.output, h.size, h.keep, fun k q hk => h.src k q ?_⟩
  simp only [effR] at hk ⊢
  split at hk
  · rename_i e; rw [if_pos e]; exact hk
  · rename_i e
    rw [if_neg e]
    split at hk
    · cases hk
    · exact hk
/-- E with one block more -/
def En.new (E : En) (n b c : Nat) : En := ⟨fun g => if g = n then b else E.ρ g, fun g => if g = n then c else E.κ g, E.σ, E.dom, E.ord⟩
theorem En.ext (E : En) (n b c : Nat) : Ext n E (E.new n b c) :=
  ⟨fun g hg => by simp only [En.new]; rw [if_neg (by omega)], fun g hg => by simp only [En.new]; rw [if_neg (by omega)], rfl⟩
@[simp] theorem En.new_ρ (E : En) (n b c : Nat) : (E.new n b c).ρ n = b := by simp [En.new]
@[simp] theorem En.new_κ (E : En) (n b c : Nat) : (E.new n b c).κ n = c := by simp [En.new]

end Go.Proofs.YtgooihjcaoajnaaGreat.Ev
