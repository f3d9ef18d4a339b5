/- Lists of digits of 16 bits: their value, and what a product's loop does to it. No program in sight. -/
import Derived.Test.YtjfdlamfklhodaaM
import Derived.Lib.Hide
set_option linter.unusedVariables false
namespace Go.Proofs.Ytjfdlamfklhodaa
open Go.RowKit
def dv : List Int → Int
  | [] => 0
  | d :: l => d + 65536 * dv l
theorem dv_set : ∀ (D : List Int) (j : Nat) (x : Int), j < D.length → dv (D.set j x) = dv D + (x - D.getD j 0) * 65536 ^ j
  | [], j, x, h => by simp at h
  | d :: l, 0, x, h => by simp only [List.set_cons_zero, dv, List.getD_cons_zero, Int.pow_zero, Int.mul_one]; omega
  | d :: l, j + 1, x, h => by
      have ih := dv_set l j x (by simpa using h)
      simp only [List.set_cons_succ, dv, List.getD_cons_succ, ih, Int.pow_succ]
      rw [Int.mul_add, ← Int.add_assoc, Int.mul_comm 65536 ((x - l.getD j 0) * 65536 ^ j), Int.mul_assoc]
theorem dv_take : ∀ (l : List Int) (k : Nat), k < l.length → dv (l.take (k + 1)) = dv (l.take k) + l.getD k 0 * 65536 ^ k
  | [], k, h => by simp at h
  | d :: l, 0, h => by simp [dv]
  | d :: l, k + 1, h => by
      have ih := dv_take l k (by simpa using h)
      rw [List.take_succ_cons, List.take_succ_cons, dv, dv, ih, List.getD_cons_succ, Int.pow_succ]
      rw [Int.mul_add, ← Int.add_assoc, Int.mul_comm 65536 (l.getD k 0 * 65536 ^ k), Int.mul_assoc]
theorem dv_split : ∀ (l : List Int) (k : Nat), k ≤ l.length → dv l = dv (l.take k) + 65536 ^ k * dv (l.drop k)
  | l, 0, h => by simp [dv]
  | [], k + 1, h => by simp at h
  | d :: l, k + 1, h => by
      have ih := dv_split l k (by simpa using h)
      rw [List.take_succ_cons, List.drop_succ_cons, dv, dv, Int.pow_succ]
      rw [Int.mul_comm (65536 ^ k) 65536, Int.mul_assoc, Int.add_assoc, ← Int.mul_add, ← ih]
def okD (D : List Int) : Prop := D.length = 9 ∧ ∀ j, j < 9 → 0 ≤ D.getD j 0 ∧ D.getD j 0 ≤ 65535
theorem okD.set {D : List Int} (h : okD D) (j : Nat) (x : Int) (h0 : 0 ≤ x) (h1 : x ≤ 65535) : okD (D.set j x) := by
  refine ⟨by simp [h.1], fun i hi => ?_⟩
  have hh := h.2 i hi
  rw [List.getD_eq_getElem?_getD] at *
  rw [List.getElem?_set]
  by_cases e : j = i
  · subst e; rw [if_pos rfl, if_pos (by rw [h.1]; exact hi)]; exact ⟨h0, h1⟩
  · rw [if_neg e]; exact hh
theorem okD_zero : okD [0, 0, 0, 0, 0, 0, 0, 0, 0] := ⟨rfl, by decide⟩
def uv (D : List Int) : Array Value := (D.map (Value.int .u64)).toArray
theorem uv_get {D : List Int} (h : okD D) {j : Nat} (hj : j < 9) : (uv D)[j]? = some (.int .u64 (D.getD j 0)) := by
  have hl : j < D.length := by rw [h.1]; exact hj
  have : D[j]? = some (D[j]'hl) := List.getElem?_eq_getElem hl
  simp only [uv, List.getElem?_toArray, List.getElem?_map, this, Option.map_some, List.getD_eq_getElem?_getD, Option.getD_some]
theorem uv_set (D : List Int) (j : Nat) (x : Int) : (uv D).setIfInBounds j (.int .u64 x) = uv (D.set j x) := by
  simp [uv, List.map_set]
/- one step of the inner loop -/
theorem in_step {D B D0 : List Int} {i k : Nat} {c y x n : Int} (hD : okD D) (hB : okD B) (hk : i + k < 9) (hx : D.getD (i + k) 0 = x) (hn : n = x + y * B.getD k 0 + c)
    (h : dv D + c * 65536 ^ (i + k) = dv D0 + y * 65536 ^ i * dv (B.take k)) :
    dv (D.set (i + k) (n % 65536)) + n / 65536 * 65536 ^ (i + (k + 1)) = dv D0 + y * 65536 ^ i * dv (B.take (k + 1)) := by
  rw [dv_set D (i + k) _ (by rw [hD.1]; exact hk), dv_take B k (by rw [hB.1]; omega), hx]
  have e : (65536 : Int) ^ (i + (k + 1)) = 65536 * 65536 ^ (i + k) := by rw [← Nat.add_assoc, Int.pow_succ, Int.mul_comm]
  have e2 : (65536 : Int) ^ (i + k) = 65536 ^ i * 65536 ^ k := Int.pow_add ..
  have e3 : n % 65536 = n - 65536 * (n / 65536) := by omega
  rw [e, e3]
  generalize (65536 : Int) ^ (i + k) = P at *
  generalize (65536 : Int) ^ i = I at *
  generalize (65536 : Int) ^ k = K at *
  generalize B.getD k 0 = z at *
  generalize dv (B.take k) = T at *
  subst e2
  subst hn
  have : (x + y * z + c - 65536 * ((x + y * z + c) / 65536) - x) * (I * K) + (x + y * z + c) / 65536 * (65536 * (I * K)) = y * z * (I * K) + c * (I * K) := by
    generalize (x + y * z + c) / 65536 = q
    generalize y * z = yz
    generalize I * K = IK
    have h1 : (x + yz + c - 65536 * q - x) * IK = (yz + c) * IK - 65536 * q * IK := by rw [← Int.sub_mul]; congr 1; omega
    have h2 : q * (65536 * IK) = 65536 * q * IK := by rw [← Int.mul_assoc, Int.mul_comm q 65536]
    rw [h1, h2, Int.add_mul]; omega
  have e4 : y * I * (T + z * K) = y * I * T + y * z * (I * K) := by
    rw [Int.mul_add]; congr 1
    rw [Int.mul_assoc, Int.mul_assoc]; congr 1
    rw [← Int.mul_assoc, Int.mul_comm I z, Int.mul_assoc]
  rw [e4]
  omega
/- one round of the outer loop -/
theorem out_step {A B D D0 : List Int} {i : Nat} {c y q : Int} (hA : okD A) (hB : okD B) (hi : i < 9) (hy : A.getD i 0 = y)
    (h : dv D + c * 65536 ^ (i + (9 - i)) = dv D0 + y * 65536 ^ i * dv (B.take (9 - i)))
    (h0 : dv D0 = dv (A.take i) * dv B + 22300745198530623141535718272648361505980416 * q) :
    ∃ q', dv D = dv (A.take (i + 1)) * dv B + 22300745198530623141535718272648361505980416 * q' := by
  have e9 : i + (9 - i) = 9 := by omega
  have p9 : (65536 : Int) ^ 9 = 22300745198530623141535718272648361505980416 := by rfl
  have e2 : (65536 : Int) ^ i * 65536 ^ (9 - i) = 22300745198530623141535718272648361505980416 := by rw [← Int.pow_add, e9, p9]
  rw [e9, p9] at h
  have hs := dv_split B (9 - i) (by rw [hB.1]; omega)
  rw [dv_take A i (by rw [hA.1]; exact hi), hy]
  generalize dv (B.take (9 - i)) = T at *
  generalize dv (B.drop (9 - i)) = R at *
  generalize (65536 : Int) ^ (9 - i) = K at *
  generalize (65536 : Int) ^ i = I at *
  generalize dv (A.take i) = S at *
  generalize dv D0 = V0 at *
  generalize dv D = V at *
  refine ⟨q - c - y * R, ?_⟩
  have e3 : y * I * (T + K * R) = y * I * T + 22300745198530623141535718272648361505980416 * (y * R) := by
    rw [Int.mul_add]; congr 1
    rw [Int.mul_assoc, ← Int.mul_assoc I K R, e2, ← Int.mul_assoc, Int.mul_comm y, Int.mul_assoc]
  rw [Int.add_mul]
  rw [hs] at h0 ⊢
  rw [e3, Int.mul_sub, Int.mul_sub]
  omega
end Go.Proofs.Ytjfdlamfklhodaa
