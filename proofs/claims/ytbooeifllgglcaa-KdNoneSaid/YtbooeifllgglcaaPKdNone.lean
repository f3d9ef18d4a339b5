/- The plan of the evaluator's run of 'alidadelaw12.KdNone', and that it comes out true. -/
import Derived.Test.YtbooeifllgglcaaEo
import Derived.Test.YtbooeifllgglcaaProg
set_option linter.unusedVariables false
namespace Go.Proofs.Ytbooeifllgglcaa.Ev
def planKdNone : List (Nat × List (Nat × List PStep)) := [(13, [(3, [.take 0, .take 1, .take 2, .take 3, .take 4, .take 5, .take 6, .take 7, .step 8, .take 9])]),
  (14, [(5, [.take 0, .take 1, .take 2, .take 3, .take 4, .take 5, .take 6, .take 7, .take 8, .take 9, .take 10]), (8, [.take 0, .take 2, .take 3, .take 4, .take 5, .step 1, .take 6, .take 7])]),
  (15, [(4, [.take 0, .take 1, .take 2, .take 3, .take 4, .take 5, .take 6, .take 7, .take 8, .take 9, .take 10, .take 11, .take 12, .take 13, .take 14, .take 15, .take 16]), (8, [.take 0, .take 1, .take 2, .take 3, .take 4, .take 5, .take 6, .take 7, .take 8, .take 9, .take 10, .step 11, .take 12])]),
  (16, [(4, [.take 0, .take 1, .take 2, .take 3, .take 4, .take 5, .take 6, .take 7, .take 8, .take 9, .take 10, .take 11, .take 12, .take 13, .take 14, .take 15, .take 16])]),
  (17, [(3, [.take 0, .take 1, .take 2, .take 3, .take 5, .take 6, .take 7, .take 8, .step 4, .take 9, .take 10])]),
  (23, [(6, [.take 0, .take 1, .take 2, .take 3, .take 4, .take 5, .take 6, .take 7, .take 8, .step 9, .take 10, .take 11, .take 12, .take 13, .take 15, .take 16, .take 17, .take 18, .step 14, .take 19, .take 20, .take 21, .take 22, .take 24, .rel 23, .rel 25, .take 26, .take 27, .take 28])]),
  (130, [(5, [.take 0, .take 1, .take 2, .take 3, .take 4, .take 5]), (6, [.take 0, .take 1, .take 4, .take 5, .take 6, .take 7, .take 8, .take 10, .take 11, .step 2, .take 3, .rel 9, .take 12, .take 13, .take 14])]),
  (132, [(12, [.take 0, .take 1, .take 2, .take 3, .take 4, .take 5, .take 6, .take 7, .take 8, .take 9, .take 10, .rel 11])]),
  (137, [(11, [.take 0, .take 1, .take 2, .take 3, .take 4, .take 5, .take 6, .take 7, .take 8, .take 9, .take 10, .take 11, .take 12, .rel 13])]),
  (140, [(3, [.take 0, .take 1, .take 2, .take 3, .take 4, .take 6, .take 7, .take 8, .take 9, .take 10, .step 5, .rel 11, .take 12, .take 13, .take 14])]),
  (141, [(3, [.take 0, .take 1, .take 2, .take 3, .take 4, .rel 5, .take 6, .take 7, .take 8, .take 9, .take 10, .take 11, .take 12, .take 13, .take 14, .take 15, .take 16, .take 19, .take 20, .take 21, .take 22, .take 23, .step 17, .take 18, .step 24, .take 25, .take 26, .take 27]), (8, [.take 0, .take 1, .take 2, .take 3, .take 4, .take 5, .take 6, .take 7, .take 8, .take 9, .rel 10, .rel 11, .take 12]), (11, [.take 0, .take 1, .take 2, .take 3, .take 4, .step 5, .take 6, .take 7])]),
  (246, [(1, [.take 0, .take 2, .take 3, .step 1, .rel 4, .take 5])]),
  (248, [(3, [.take 0, .take 1, .take 2, .take 3, .take 4, .take 5, .take 6, .take 7, .take 8, .take 9, .take 10, .take 12, .take 13, .take 14, .rel 11, .take 15, .rel 16])]),
  (249, [(2, [.take 0, .take 1, .take 2, .take 3, .take 4, .take 5, .take 6, .take 7, .take 8, .take 9, .take 10, .take 11, .take 12, .take 13, .take 14, .take 15, .take 16, .take 17, .take 18, .take 19, .take 20, .take 21, .take 22, .take 23, .take 24, .take 25, .take 26, .take 27, .take 28, .take 29, .take 30, .take 31, .take 32, .take 33, .take 34, .take 35, .rel 36])]),
  (250, [(1, [.take 0, .take 1, .take 2, .take 3, .take 4, .take 6, .take 7, .take 8, .take 9, .take 10, .take 13, .take 14, .take 15, .take 16, .take 17, .take 18, .step 5, .step 11, .take 12, .take 19, .take 20])]),
  (253, [(1, [.take 0, .take 1, .take 2, .take 3, .take 4, .open 9, .fstep 5, .take 6, .take 7, .take 8, .land, .rel 10, .take 11])]),
  (255, [(0, [.take 0, .take 1, .take 2, .take 3, .take 4, .take 5, .take 6, .take 7, .take 8, .take 9, .rel 10, .take 11]), (1, [.take 0, .take 1, .take 2, .take 3, .take 4, .rel 5])]),
  (258, [(4, [.take 0, .take 1, .rel 2, .take 3, .take 4, .take 5, .take 6, .rel 7, .take 8, .take 9, .take 10, .take 11, .take 12, .take 13, .take 14, .take 15, .take 16, .take 17, .take 18, .rel 19, .take 20, .take 21, .take 22])]),
  (259, [(5, [.take 0, .take 1, .take 2, .take 3, .take 4, .take 5, .take 6, .take 7, .take 8, .take 9, .take 10, .take 11, .rel 12, .take 13, .take 14]), (7, [.take 0, .take 1, .take 2, .take 3, .take 4, .take 5, .take 6, .take 7, .take 8, .take 9, .take 10, .take 11, .rel 12, .take 13, .take 14])]),
  (261, [(6, [.take 0, .take 1, .take 2, .take 3, .take 4, .take 5, .take 6, .take 7, .take 8, .take 9, .take 10, .take 11, .take 12, .take 13, .take 14, .take 15, .take 16, .take 17, .take 18, .take 19, .take 20, .take 21, .take 22, .take 23, .take 24, .take 25, .take 26, .take 27, .take 28, .take 29, .take 30, .take 31, .take 32, .rel 33])]),
  (267, [(1, [.take 0, .take 2, .step 1, .rel 3, .rel 4, .take 5])]),
  (336, [(3, [.take 0, .step 1, .rel 2, .rel 3, .rel 4]), (6, [.take 0, .take 1, .take 2, .step 3, .rel 4, .rel 5]), (7, [.take 0, .take 1, .take 2, .take 3, .step 4, .rel 5, .rel 6]), (8, [.take 0, .take 1, .take 2, .take 3, .take 4, .take 5, .step 6, .step 7, .rel 8, .rel 9])]),
  (338, [(1, [.take 0, .take 1, .take 2, .take 3, .take 4, .take 5, .take 6, .take 7, .take 8, .take 9, .step 10, .rel 11, .rel 12])]),
  (340, [(3, [.take 0, .take 1, .take 2, .take 3, .take 4, .take 5, .take 6, .take 7, .take 8, .take 9, .take 10, .take 11, .take 12, .take 13, .take 14, .take 15, .take 16, .step 17, .rel 18])]),
  (380, [(2, [.take 0, .step 1, .rel 2, .rel 3, .rel 4])]),
  (404, [(2, [.take 0, .take 1, .take 2, .take 3, .take 4, .take 5, .take 6, .take 7, .take 8, .take 9, .take 10, .take 11, .take 12, .take 13, .take 14, .take 16, .step 15, .rel 17, .take 18, .take 19, .rel 20]), (6, [.take 0, .take 1, .take 2, .take 4, .take 5, .take 6, .step 3, .take 7, .take 8, .step 9, .rel 10, .rel 11])]),
  (405, [(11, [.take 0, .take 1, .take 2, .take 3, .take 4, .take 5, .take 6, .take 7, .take 8, .take 9, .take 10, .take 11, .take 12, .rel 13])]),
  (417, [(4, [.take 0, .take 1, .rel 2, .take 3, .take 4, .take 5, .take 6, .rel 7, .take 8, .take 9, .take 10, .take 11, .take 12, .take 13, .take 14, .take 15, .take 16, .take 17, .take 18, .rel 19, .take 20, .take 21, .take 22])])]
def argsKdNone : List AV := [.ag [.y .i64 0, .y .i64 1, .y .i64 2, .y .i64 3, .y .i64 4], .ag [.y .i64 5, .y .i64 6, .y .i64 7, .y .i64 8]]
set_option maxRecDepth 100000 in
theorem ranKdNone : okB (callA Try.prog [3, 20, 23, 27, 28, 29, 32] (lk planKdNone) 200 3 argsKdNone ⟨0, .e⟩) = true := by kernel_rfl
set_option maxRecDepth 100000 in
theorem eqsKdNone : seB Try.prog [3, 20, 23, 27, 28, 29, 32] = true := by kernel_rfl
set_option maxRecDepth 100000 in
theorem namesKdNone : nmB Try.prog = true := by kernel_rfl
end Go.Proofs.Ytbooeifllgglcaa.Ev
