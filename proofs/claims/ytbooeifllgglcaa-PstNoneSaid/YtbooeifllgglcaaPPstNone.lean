/- The plan of the evaluator's run of 'alidadelaw14.PstNone', and that it comes out true. -/
import Derived.Test.YtbooeifllgglcaaEo
import Derived.Test.YtbooeifllgglcaaProg
set_option linter.unusedVariables false
namespace Go.Proofs.Ytbooeifllgglcaa.Ev
def planPstNone : List (Nat × List (Nat × List PStep)) := [(38, [(1, [.take 0, .take 1, .take 2, .take 3, .take 4, .take 5, .take 6, .take 7, .take 8, .take 9, .take 10, .take 11]), (5, [.take 0, .take 1, .take 2, .take 3, .take 4, .take 5, .take 6, .take 7, .take 8, .take 9, .take 10, .take 11, .take 12, .take 13, .take 14, .take 15, .take 16, .step 17, .rel 18]), (12, [.take 0, .take 1, .take 2, .take 3, .take 4, .take 6, .rel 5, .take 7, .take 8])]),
  (40, [(5, [.take 0, .take 2, .take 3, .take 4, .take 5, .step 1, .take 6, .take 7])]),
  (45, [(2, [.take 0, .take 2, .take 3, .step 1, .rel 4])]),
  (46, [(2, [.take 0, .take 2, .take 3, .step 1, .rel 4])]),
  (137, [(11, [.take 0, .take 1, .take 2, .take 3, .take 4, .take 5, .take 6, .take 7, .take 8, .take 9, .take 10, .take 11, .take 12, .step 13])]),
  (153, [(1, [.take 0, .take 1, .take 2, .take 3, .take 4, .take 5, .take 6, .take 7, .take 8, .take 9, .take 10, .take 11, .take 12, .take 13, .rel 14, .take 15, .take 16, .take 17])]),
  (155, [(8, [.take 0, .take 1, .take 2, .take 3, .take 4, .rel 5, .take 6]), (9, [.take 0, .take 1, .take 2, .take 3, .take 4, .take 5, .rel 6, .take 7, .take 8, .rel 9]), (12, [.take 0, .take 1, .take 2, .take 4, .take 5, .rel 3, .take 6, .rel 7])]),
  (156, [(3, [.take 0, .take 1, .take 2, .take 3, .take 4, .take 5, .take 6, .take 7, .rel 8, .take 9, .take 10]), (4, [.take 0, .take 1, .take 2, .take 4, .take 5, .rel 3, .take 6, .take 7, .take 8]), (6, [.take 0, .take 1, .take 2, .take 3, .take 4, .take 5])]),
  (159, [(1, [.take 0, .take 1, .take 2, .take 3, .take 4, .take 5, .step 6, .step 7, .take 8, .take 9, .rel 10])]),
  (161, [(3, [.take 0, .take 1, .take 2, .take 3, .take 4, .take 6, .take 7, .take 8, .take 9, .take 10, .step 5, .step 11, .take 12, .take 13, .take 14])]),
  (162, [(3, [.take 0, .take 1, .take 2, .take 3, .take 4, .step 5, .take 6, .take 7, .take 8, .take 9, .take 10, .take 11, .take 12, .take 13, .take 14, .take 15, .take 16, .take 19, .take 20, .take 21, .take 22, .take 23, .step 17, .take 18, .step 24, .take 25, .take 26, .take 27])]),
  (258, [(4, [.take 0, .take 1, .take 2, .take 3, .take 4, .take 5, .take 6, .take 7, .take 8, .take 9, .take 10, .take 11, .take 12, .take 13, .take 14, .take 15, .take 16, .take 17, .take 18, .rel 19, .take 20, .take 21, .take 22])]),
  (267, [(1, [.take 0, .take 2, .step 1, .step 3, .step 4, .take 5])]),
  (268, [(1, [.take 0, .take 1, .take 2, .take 3, .take 4, .take 6, .take 7, .take 8, .take 9, .take 10, .take 13, .take 14, .take 15, .take 16, .take 17, .take 18, .step 5, .step 11, .take 12, .take 19, .take 20])]),
  (271, [(7, [.take 0, .take 1, .take 2, .take 3, .take 4, .rel 5, .take 6]), (18, [.take 0, .take 1, .take 2, .take 3, .take 5, .take 6, .take 7, .rel 4, .rel 8, .take 9, .take 10, .take 11, .rel 12])]),
  (272, [(11, [.take 0, .take 1, .take 2, .take 3, .take 4, .take 5, .take 6, .take 7, .take 8, .take 9, .take 10, .take 11, .take 12, .step 13])]),
  (275, [(1, [.take 0, .take 1, .take 2, .take 3, .take 4, .rel 5, .take 6])]),
  (276, [(1, [.take 0, .take 1, .take 2, .take 3, .take 4, .take 5, .take 6, .take 7, .take 8, .take 9, .take 10, .take 11]), (6, [.take 0, .take 1, .take 2, .take 3, .take 4, .take 5, .take 6, .take 7, .take 8, .take 9, .take 10, .rel 11, .take 12, .take 13, .take 14])]),
  (277, [(1, [.take 0, .take 1, .take 2, .take 3, .take 4, .step 5, .take 6, .take 7, .take 8, .take 9, .take 11, .step 10, .take 12, .take 13, .take 14, .take 15, .take 16, .step 17, .take 18, .take 19])]),
  (346, [(4, [.take 0, .take 1, .take 2, .take 3, .take 4, .take 5, .take 6, .take 7, .take 8, .take 9, .take 10, .take 11, .take 12, .take 13, .take 14, .take 15, .take 16, .take 17, .take 18, .rel 19, .take 20, .take 21, .take 22])])]
def argsPstNone : List AV := [.ag [.y .i64 0, .y .i64 1, .y .i64 2, .y .i64 3, .y .i64 4], .ag [.y .i64 5, .y .i64 6, .y .i64 7]]
set_option maxRecDepth 100000 in
theorem ranPstNone : okB (callA Try.prog [3, 20, 23, 32, 55, 56] (lk planPstNone) 200 5 argsPstNone ⟨0, .e⟩) = true := by kernel_rfl
set_option maxRecDepth 100000 in
theorem eqsPstNone : seB Try.prog [3, 20, 23, 32, 55, 56] = true := by kernel_rfl
set_option maxRecDepth 100000 in
theorem namesPstNone : nmB Try.prog = true := by kernel_rfl
end Go.Proofs.Ytbooeifllgglcaa.Ev
