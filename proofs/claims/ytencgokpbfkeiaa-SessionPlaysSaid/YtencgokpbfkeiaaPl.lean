/- Words for SessionPlays. -/
import Derived.Test.YtencgokpbfkeiaaDn
import Derived.Test.YtencgokpbfkeiaaFl
import Derived.LoopN
set_option linter.unusedVariables false
set_option linter.unusedSimpArgs false
namespace Go.Proofs.Ytencgokpbfkeiaa
open Go.ChangeShapes Go.WideShapes Go.ChangeAt Go.RowKit
theorem range_keep {w w' : World} {b o B : Nat} {l : List Value} (h : w.rangeAt b o l) (hb : Below B w w') (hB : b < B) : w'.rangeAt b o l := fun j v hv => by
  rw [hb.cell (p := ⟨b, o + j, none⟩) hB]
  exact h j v hv
theorem act_row {w : World} {B n t : Nat} {A : Option Addr} {zs : List Int} (hr : Reads w B 19 A n (iv zs)) (ht : t < n) : ∃ (b off : Nat) (e0 e1 e2 e3 e4 e5 e6 e7 e8 e9 e10 e11 e12 e13 e14 e15 e16 e17 e18 : Int), A = some ⟨b, off, none⟩ ∧ b < B ∧ w.rangeAt b (off + t * 19) [.int .i64 e0, .int .i64 e1, .int .i64 e2, .int .i64 e3, .int .i64 e4, .int .i64 e5, .int .i64 e6, .int .i64 e7, .int .i64 e8, .int .i64 e9, .int .i64 e10, .int .i64 e11, .int .i64 e12, .int .i64 e13, .int .i64 e14, .int .i64 e15, .int .i64 e16, .int .i64 e17, .int .i64 e18] := by
  obtain ⟨b, off, hA, hb, hc⟩ := hr.row (by omega) (by omega)
  have hlen : zs.length = n * 19 := by have := hr.1; simpa [iv] using this
  have hl : ((zs.drop (t * 19)).take 19).length = 19 := by simp; omega
  have hg : w.rangeAt b (off + t * 19) (iv ((zs.drop (t * 19)).take 19)) := fun j v hv => by
    have hj : j < 19 := by have := (List.getElem?_eq_some_iff.1 hv).1; simp [iv] at this; omega
    have h2 : (iv zs)[t * 19 + j]? = some v := by
      rw [← hv]
      simp only [iv, List.getElem?_map, List.getElem?_take, hj, if_true, List.getElem?_drop]
    have h3 := hc _ _ h2
    rwa [← Nat.add_assoc] at h3
  generalize (zs.drop (t * 19)).take 19 = l at hl hg
  obtain ⟨e0, l0, rfl, h0⟩ := len_cons hl
  obtain ⟨e1, l1, rfl, h1⟩ := len_cons h0
  obtain ⟨e2, l2, rfl, h2⟩ := len_cons h1
  obtain ⟨e3, l3, rfl, h3⟩ := len_cons h2
  obtain ⟨e4, l4, rfl, h4⟩ := len_cons h3
  obtain ⟨e5, l5, rfl, h5⟩ := len_cons h4
  obtain ⟨e6, l6, rfl, h6⟩ := len_cons h5
  obtain ⟨e7, l7, rfl, h7⟩ := len_cons h6
  obtain ⟨e8, l8, rfl, h8⟩ := len_cons h7
  obtain ⟨e9, l9, rfl, h9⟩ := len_cons h8
  obtain ⟨e10, l10, rfl, h10⟩ := len_cons h9
  obtain ⟨e11, l11, rfl, h11⟩ := len_cons h10
  obtain ⟨e12, l12, rfl, h12⟩ := len_cons h11
  obtain ⟨e13, l13, rfl, h13⟩ := len_cons h12
  obtain ⟨e14, l14, rfl, h14⟩ := len_cons h13
  obtain ⟨e15, l15, rfl, h15⟩ := len_cons h14
  obtain ⟨e16, l16, rfl, h16⟩ := len_cons h15
  obtain ⟨e17, l17, rfl, h17⟩ := len_cons h16
  obtain ⟨e18, l18, rfl, h18⟩ := len_cons h17
  obtain rfl := List.eq_nil_of_length_eq_zero h18
  exact ⟨b, off, e0, e1, e2, e3, e4, e5, e6, e7, e8, e9, e10, e11, e12, e13, e14, e15, e16, e17, e18, hA, hb, hg⟩
theorem neq_r (r : Rq) (W : World) : (binOp .neq 57 r.v r.v).run Try.prog W = .ok (.bool false) W := by
  unfold Rq.v
  go_simp
end Go.Proofs.Ytencgokpbfkeiaa
