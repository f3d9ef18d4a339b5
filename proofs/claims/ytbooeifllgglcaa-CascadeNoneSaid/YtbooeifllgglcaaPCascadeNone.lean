/- The plan of the evaluator's run of 'alidadelaw16.CascadeNone', and that it comes out true. -/
import Derived.Test.YtbooeifllgglcaaEo
import Derived.Test.YtbooeifllgglcaaProg
set_option linter.unusedVariables false
namespace Go.Proofs.Ytbooeifllgglcaa.Ev
def planCascadeNone : List (Nat × List (Nat × List PStep)) := [(65, [(3, [.take 0, .take 1, .take 2, .take 3, .take 4, .take 5, .take 6, .take 7, .take 8, .take 9, .take 10, .take 11, .take 12, .take 13, .take 14, .take 15, .take 16, .take 17, .take 18, .take 19, .take 20, .take 21, .take 22, .take 23, .rel 24, .take 25])]),
  (66, [(5, [.take 0, .take 1, .take 3, .open 4, .fstep 2, .land, .take 5, .rel 6, .take 7]), (10, [.take 0, .take 1, .take 2, .take 3, .take 4, .take 5, .step 6, .rel 7, .take 8, .take 9, .rel 10])]),
  (72, [(5, [.take 0, .take 2, .take 3, .take 4, .take 5, .take 6, .take 8, .take 9, .take 10, .take 11, .take 12, .step 1, .step 7, .rel 13, .take 14, .take 15, .take 16, .take 17, .take 18, .take 19, .take 20, .take 21, .take 22, .step 23, .take 24, .take 25])]),
  (137, [(11, [.take 0, .take 1, .take 2, .take 3, .take 4, .take 5, .take 6, .take 7, .take 8, .take 9, .take 10, .take 11, .take 12, .rel 13])]),
  (172, [(3, [.take 0, .take 1, .take 2, .rel 3, .take 4, .take 5, .take 6, .take 7, .take 8, .take 9, .take 10, .take 11, .take 12, .take 13, .take 14, .take 15, .take 16, .take 17, .take 18, .take 19, .take 20, .take 21, .rel 22, .take 23, .take 24, .take 25])]),
  (179, [(5, [.take 0, .take 1, .take 2, .take 3, .take 4, .take 5, .take 6, .take 7, .take 8, .take 9, .rel 10])]),
  (258, [(4, [.take 0, .take 1, .rel 2, .take 3, .take 4, .take 5, .take 6, .rel 7, .take 8, .take 9, .take 10, .take 11, .take 12, .take 13, .take 14, .take 15, .take 16, .take 17, .take 18, .rel 19, .take 20, .take 21, .take 22])]),
  (267, [(1, [.take 0, .take 2, .step 1, .rel 3, .rel 4, .take 5])]),
  (385, [(1, [.take 0, .take 1, .take 2, .take 3, .take 4, .take 5, .rel 6, .take 7, .take 8])]),
  (386, [(1, [.take 0, .take 1, .take 2, .take 3, .take 4, .take 5, .rel 6, .take 7])])]
def argsCascadeNone_0 : List AV := [.ag [.y .i64 0, .y .i64 1, .y .i64 2], .y .i64 3000]
set_option maxRecDepth 100000 in
theorem ranCascadeNone_0 : okB (callA Try.prog [3, 20, 23, 73, 76, 185] (lk planCascadeNone) 200 7 argsCascadeNone_0 ⟨0, .e⟩) = true := by kernel_rfl
def argsCascadeNone_1 : List AV := [.ag [.y .i64 0, .y .i64 1, .y .i64 2], .i .i64 0]
set_option maxRecDepth 100000 in
theorem ranCascadeNone_1 : okB (callA Try.prog [3, 20, 23, 73, 76, 185] (lk planCascadeNone) 200 7 argsCascadeNone_1 ⟨0, .e⟩) = true := by kernel_rfl
def argsCascadeNone_2 : List AV := [.ag [.y .i64 0, .y .i64 1, .y .i64 2], .i .i64 1]
set_option maxRecDepth 100000 in
theorem ranCascadeNone_2 : okB (callA Try.prog [3, 20, 23, 73, 76, 185] (lk planCascadeNone) 200 7 argsCascadeNone_2 ⟨0, .e⟩) = true := by kernel_rfl
def argsCascadeNone_3 : List AV := [.ag [.y .i64 0, .y .i64 1, .y .i64 2], .y .i64 5000]
set_option maxRecDepth 100000 in
theorem ranCascadeNone_3 : okB (callA Try.prog [3, 20, 23, 73, 76, 185] (lk planCascadeNone) 200 7 argsCascadeNone_3 ⟨0, .e⟩) = true := by kernel_rfl
def sigCascadeNone (a0_0 a0_1 a0_2 a1 : Int) (c j : Nat) : Int := match Nat.beq j c with
  | true => a1
  | false => ([a0_0, a0_1, a0_2] : List Int).getD j 0
set_option maxRecDepth 100000 in
theorem eqsCascadeNone : seB Try.prog [3, 20, 23, 73, 76, 185] = true := by kernel_rfl
set_option maxRecDepth 100000 in
theorem namesCascadeNone : nmB Try.prog = true := by kernel_rfl
end Go.Proofs.Ytbooeifllgglcaa.Ev
