/- The plan of the evaluator's run of 'alidadelaw15.PstcurNone', and that it comes out true. -/
import Derived.Test.YtbooeifllgglcaaEo
import Derived.Test.YtbooeifllgglcaaProg
set_option linter.unusedVariables false
namespace Go.Proofs.Ytbooeifllgglcaa.Ev
def planPstcurNone : List (Nat × List (Nat × List PStep)) := [(38, [(1, [.take 0, .take 1, .take 2, .take 3, .take 4, .take 5, .take 6, .take 7, .take 8, .take 9, .take 10, .take 11]), (5, [.take 0, .take 1, .take 2, .take 3, .take 4, .take 5, .take 6, .take 7, .take 8, .take 9, .take 10, .take 11, .take 12, .take 13, .take 14, .take 15, .take 16, .step 17, .rel 18]), (12, [.take 0, .take 1, .take 2, .take 3, .take 4, .take 6, .rel 5, .take 7, .take 8])]),
  (40, [(5, [.take 0, .take 2, .take 3, .take 4, .take 5, .step 1, .take 6, .take 7])]),
  (137, [(11, [.take 0, .take 1, .take 2, .take 3, .take 4, .take 5, .take 6, .take 7, .take 8, .take 9, .take 10, .take 11, .take 12, .rel 13])]),
  (155, [(8, [.take 0, .take 1, .take 2, .take 3, .take 4, .rel 5, .take 6]), (9, [.take 0, .take 1, .take 2, .take 3, .take 4, .take 5, .rel 6, .take 7, .take 8, .rel 9]), (12, [.take 0, .take 1, .take 2, .take 4, .take 5, .rel 3, .take 6, .rel 7])]),
  (156, [(3, [.take 0, .take 1, .take 2, .take 3, .take 4, .take 5, .take 6, .take 7, .rel 8, .take 9, .take 10]), (4, [.take 0, .take 1, .take 2, .take 4, .take 5, .rel 3, .take 6, .take 7, .take 8]), (6, [.take 0, .take 1, .take 2, .take 3, .take 4, .take 5])]),
  (159, [(1, [.take 0, .take 1, .take 2, .take 3, .take 4, .take 5, .step 6, .rel 7, .take 8, .take 9, .rel 10])]),
  (164, [(8, [.take 0, .take 1, .take 2, .take 3])]),
  (165, [(5, [.take 0, .take 1, .take 2, .take 3, .take 4, .take 5, .step 6, .take 7, .step 8, .rel 9, .take 10, .take 11, .rel 12])]),
  (167, [(1, [.take 0, .take 1, .take 2, .take 3, .take 4, .take 5, .take 6, .take 7, .take 8, .take 9, .take 12, .step 10, .take 11, .take 13])]),
  (258, [(4, [.take 0, .take 1, .rel 2, .take 3, .take 4, .take 5, .take 6, .rel 7, .take 8, .take 9, .take 10, .take 11, .take 12, .take 13, .take 14, .take 15, .take 16, .take 17, .take 18, .rel 19, .take 20, .take 21, .take 22])]),
  (267, [(1, [.take 0, .take 2, .step 1, .rel 3, .rel 4, .take 5])]),
  (268, [(1, [.take 0, .take 1, .take 2, .take 3, .take 4, .take 6, .take 7, .take 8, .take 9, .take 10, .take 13, .take 14, .take 15, .take 16, .take 17, .take 18, .step 5, .step 11, .take 12, .take 19, .take 20])]),
  (271, [(7, [.take 0, .take 1, .take 2, .take 3, .take 4, .rel 5, .take 6]), (18, [.take 0, .take 1, .take 2, .take 3, .take 5, .take 6, .take 7, .rel 4, .rel 8, .take 9, .take 10, .take 11, .rel 12])]),
  (272, [(11, [.take 0, .take 1, .take 2, .take 3, .take 4, .take 5, .take 6, .take 7, .take 8, .take 9, .take 10, .take 11, .take 12, .rel 13])]),
  (275, [(1, [.take 0, .take 1, .take 2, .take 3, .take 4, .rel 5, .take 6])]),
  (281, [(0, [.take 0, .take 1, .take 2, .take 3, .take 4, .take 5, .take 6, .take 7, .take 8, .take 9, .take 10, .take 11, .take 12, .take 13, .take 14, .take 15, .take 16, .take 17, .take 18, .take 19, .take 20, .take 21, .take 22, .take 23, .take 24, .rel 25, .take 26, .rel 27])]),
  (282, [(1, [.take 0, .take 1, .take 2, .take 3, .take 4, .take 5, .take 6, .take 8, .take 9, .take 10, .take 11, .take 12, .take 13, .take 14, .step 7, .rel 15, .rel 16, .take 17, .take 18])]),
  (284, [(3, [.take 0, .take 1, .take 2, .take 3, .take 4, .take 5, .take 6, .take 7, .take 8, .take 9, .take 10, .take 11, .rel 12, .take 13, .take 14])]),
  (346, [(4, [.take 0, .take 1, .rel 2, .take 3, .take 4, .take 5, .take 6, .rel 7, .take 8, .take 9, .take 10, .take 11, .take 12, .take 13, .take 14, .take 15, .take 16, .take 17, .take 18, .rel 19, .take 20, .take 21, .take 22])]),
  (384, [(4, [.take 0, .take 1, .take 2, .take 3, .take 4, .take 5, .take 6, .take 7, .step 8, .take 9, .take 10, .take 11, .take 12, .take 13])])]
def argsPstcurNone_0 : List AV := [.ag [.y .i64 0, .y .i64 1, .y .i64 2], .y .i64 1000]
set_option maxRecDepth 100000 in
theorem ranPstcurNone_0 : okB (callA Try.prog [1, 3, 20, 23, 32, 55, 56, 66, 67, 175, 178] (lk planPstcurNone) 200 6 argsPstcurNone_0 ⟨0, .e⟩) = true := by kernel_rfl
def argsPstcurNone_1 : List AV := [.ag [.y .i64 0, .y .i64 1, .y .i64 2], .y .i64 6000]
set_option maxRecDepth 100000 in
theorem ranPstcurNone_1 : okB (callA Try.prog [1, 3, 20, 23, 32, 55, 56, 66, 67, 175, 178] (lk planPstcurNone) 200 6 argsPstcurNone_1 ⟨0, .e⟩) = true := by kernel_rfl
def argsPstcurNone_2 : List AV := [.ag [.y .i64 0, .y .i64 1, .y .i64 2], .y .i64 7000]
set_option maxRecDepth 100000 in
theorem ranPstcurNone_2 : okB (callA Try.prog [1, 3, 20, 23, 32, 55, 56, 66, 67, 175, 178] (lk planPstcurNone) 200 6 argsPstcurNone_2 ⟨0, .e⟩) = true := by kernel_rfl
def sigPstcurNone (a0_0 a0_1 a0_2 a1 : Int) (c j : Nat) : Int := match Nat.beq j c with
  | true => a1
  | false => ([a0_0, a0_1, a0_2] : List Int).getD j 0
set_option maxRecDepth 100000 in
theorem eqsPstcurNone : seB Try.prog [1, 3, 20, 23, 32, 55, 56, 66, 67, 175, 178] = true := by kernel_rfl
set_option maxRecDepth 100000 in
theorem namesPstcurNone : nmB Try.prog = true := by kernel_rfl
end Go.Proofs.Ytbooeifllgglcaa.Ev
