/- A queue that is bounded (layer 11): one waits. -/
import Derived.Test.YtmomafhpbbmiaaaR7
set_option linter.unusedVariables false
namespace Go.Proofs.Ytmomafhpbbmiaaa
open Go.ChangeShapes Go.WideShapes Go.ChangeAt Go.RowKit
theorem rg_below {w w' : World} {base g : Nat} {most : Int} {x : Value} {L : List Int} (hg : Rg w base g most x L) (ho : Only (fun q => q = g ∨ x.ownBlock = some q) w w') : Below base w w' :=
  ho.below (by have := hg.1; have := hg.lt; omega) (fun i hi h => by
    rcases h with h | h
    · have := hg.1; omega
    · have := hg.own i h; omega)
set_option maxHeartbeats 2000000 in
theorem lives11 (w : World) : Calls Try.prog 10 #[] w fun e w' => e = .returned (.bool true) ∧ Below w.heap.size w w' := by
  have i1 : idx [] 7 < 0 := by decide
  have i2 : idx ([] ++ [7]) 8 < 0 := by decide
  have i3 : 0 ≤ idx ([] ++ [7] ++ [8]) 7 := by decide
  have i4 : ([] ++ [7] ++ [8] : List Int).eraseIdx (idx ([] ++ [7] ++ [8]) 7).toNat = [8] := by decide
  have H1 := Lib.hid i1
  have H2 := Lib.hid i2
  have H3 := Lib.hid i3
  have H4 := Lib.hid i4
  clear i1 i2 i3 i4
  go_enter Try.func10, Try.ntmps10
  go_wp2_with fail
  refine (ring_new 3 (by omega) _).mono ?_
  rintro e w1 ⟨rfl, hw1⟩
  have G1 : Rg w1 w.heap.size w.heap.size 3 (.slice none 0 0) [] := by rw [hw1]; exact rg_new 3 (by omega) w
  have k1 : Below w.heap.size w w1 := by rw [hw1]; exact (Below.refl _ _).alloc (Nat.le_refl _) _
  have HG1 := Lib.hid G1
  clear hw1 G1
  go_wp2_with fail
  refine (ring_push _ _ 3 _ [] 7 w1 HG1.out H1.out (by simp) k1.size).mono ?_
  rintro e w2 ⟨rfl, x2, G2, O2, -⟩
  have k2 := k1.trans (rg_below HG1.out O2)
  have HG2 := Lib.hid G2
  clear G2 O2
  go_wp2_with fail
  refine (ring_push _ _ 3 _ _ 8 w2 HG2.out H2.out (by simp) k2.size).mono ?_
  rintro e w3 ⟨rfl, x3, G3, O3, -⟩
  have k3 := k2.trans (rg_below HG2.out O3)
  have HG3 := Lib.hid G3
  clear G3 O3
  go_wp2_with fail
  refine (ring_drop _ _ 3 _ _ 7 w3 HG3.out H3.out).mono ?_
  rintro e w4 ⟨rfl, G4, O4⟩
  have k4 := k3.trans (rg_below HG3.out O4)
  rw [H4.out] at G4
  have HG4 := Lib.hid G4
  clear G4 O4
  go_wp2_with fail
  refine (ring_pop _ _ 3 _ 8 [] w4 HG4.out).mono ?_
  rintro e w5 ⟨rfl, G5, O5⟩
  have k5 := k4.trans (rg_below HG4.out O5)
  clear G5 O5
  go_wp2_with fail
  go_ret
  exact ⟨rfl, k5⟩
end Go.Proofs.Ytmomafhpbbmiaaa
