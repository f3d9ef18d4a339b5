/- The plan of the evaluator's run of 'alidadelaw19.LogmNone', and that it comes out true. -/
import Derived.Test.YtbcnabaholgfiaaGreatEo
import Derived.Test.YtbcnabaholgfiaaGreatProg
set_option linter.unusedVariables false
namespace Go.Proofs.YtbcnabaholgfiaaGreat.Ev
def planLogmNone : List (Nat × List (Nat × List PStep)) := [(4, [(5, [.take 0, .take 2, .take 3, .take 4, .take 5, .step 1, .take 6, .take 7]), (7, [.take 0, .take 1, .take 2, .take 3, .take 4, .open 9, .fstep 5, .take 6, .take 7, .take 8, .land, .rel 10, .take 11]), (9, [.take 0, .take 1, .take 2, .take 3, .take 4, .rel 5]), (11, [.take 0, .take 1, .take 2, .take 3, .take 4, .take 5, .rel 6])]),
  (5, [(5, [.take 0, .take 1, .take 2, .take 3, .take 4, .rel 5]), (6, [.take 0, .take 1, .take 2, .take 3, .take 4, .take 5, .rel 6]), (7, [.take 0, .take 1, .take 2, .take 3, .take 5, .take 6, .take 7, .take 8, .step 4, .rel 9, .take 10])]),
  (6, [(3, [.take 0, .take 1, .take 2, .take 3, .take 4, .open 9, .fstep 5, .take 6, .take 7, .take 8, .land, .rel 10, .take 11])]),
  (8, [(1, [.take 0, .take 1, .step 2, .rel 3, .take 4])]),
  (9, [(1, [.take 0, .take 1, .step 2, .rel 3, .take 4]), (3, [.take 0, .take 2, .take 3, .step 1, .rel 4, .rel 5, .take 6, .take 7])]),
  (14, [(1, [.take 0, .take 1, .take 2, .take 3, .take 4, .take 5, .take 6, .take 8, .take 9, .take 10, .take 11, .step 7, .rel 12, .take 13, .take 14, .take 15, .take 16, .take 17, .take 18, .take 19, .take 21, .take 22, .take 23, .take 24, .step 20, .take 25, .take 26]), (8, [.take 0, .take 2, .take 3, .rel 1, .take 4, .take 5, .take 6, .rel 7, .take 8, .take 9]), (13, [.take 0, .take 1, .take 2, .take 3, .take 4, .open 9, .fstep 5, .take 6, .take 7, .take 8, .land, .rel 10, .take 11]), (14, [.take 0, .take 1, .take 2, .take 3, .take 4, .open 9, .fstep 5, .take 6, .take 7, .take 8, .land, .rel 10, .take 11]), (20, [.take 0, .take 2, .take 3, .take 4, .take 5, .take 7, .take 8, .take 9, .take 10, .step 1, .step 6, .rel 11, .take 12, .take 13, .take 14, .take 15, .take 17, .rel 16, .rel 18, .rel 19, .take 20, .take 21, .take 22])]),
  (25, [(11, [.take 0, .take 1, .take 2, .take 3, .take 4, .take 5, .take 6, .take 7, .take 8, .take 9, .take 10, .take 11, .take 12, .rel 13])]),
  (28, [(6, [.take 0, .rel 1, .take 2, .take 3, .take 4, .take 5, .take 6, .take 7, .take 8, .take 9, .take 10, .take 11, .take 12, .take 13, .take 14, .take 15, .rel 16, .take 17, .take 18, .take 19]), (16, [.take 0, .take 2, .rel 1, .take 3, .take 4, .take 5, .take 6, .take 7, .take 8, .take 9, .take 10, .take 11, .rel 12, .take 13, .take 14, .take 15, .take 16, .take 17, .take 18, .take 19, .take 20, .take 21, .take 22, .rel 23, .take 24, .take 25])]),
  (34, [(0, [.take 0, .take 1, .take 2, .take 3, .take 4, .take 5, .step 6, .take 7, .take 8, .take 9, .take 10, .rel 11])]),
  (35, [(11, [.take 0, .take 1, .take 2, .take 3, .take 4, .take 5, .take 6, .take 7, .take 8, .take 9, .take 10, .take 11, .take 12, .rel 13])]),
  (38, [(2, [.take 0, .take 1, .take 2, .take 4, .step 3, .take 5, .rel 6, .take 7])]),
  (40, [(2, [.take 0, .take 1, .take 2, .take 3, .take 4, .take 5, .take 6, .take 7, .take 8, .take 9, .rel 10, .rel 11]), (5, [.take 0, .take 1, .take 2, .take 3, .take 4, .rel 5, .take 6, .take 7, .take 8, .take 9, .take 10, .take 11, .take 12]), (12, [.take 0, .take 1, .take 2, .take 3, .take 4, .take 5, .take 6, .take 7, .step 8, .rel 9])]),
  (44, [(4, [.take 0, .take 1, .rel 2, .take 3, .take 4, .take 5, .take 6, .rel 7, .take 8, .take 9, .take 10, .take 11, .take 12, .take 13, .take 14, .take 15, .take 16, .take 17, .take 18, .rel 19, .take 20, .take 21, .take 22])]),
  (46, [(5, [.take 0, .take 2, .take 3, .take 4, .take 5, .take 6, .take 8, .take 9, .take 10, .take 11, .take 12, .step 1, .step 7, .rel 13, .take 14, .take 15, .take 16, .take 17, .take 18, .take 19, .take 20, .take 21, .take 22, .step 23, .take 24, .take 25])]),
  (47, [(8, [.take 0, .take 1, .take 3, .step 2, .rel 4, .take 5, .take 6, .take 7, .take 8, .take 9, .take 10, .take 11, .take 12, .take 13, .take 15, .take 16, .take 17, .take 18, .step 14, .rel 19, .take 20, .take 21]), (14, [.take 0, .take 1, .take 2, .take 3, .take 4, .take 5, .take 6, .step 7, .rel 8, .take 9, .take 10, .take 11, .take 12, .take 13, .take 14, .take 15, .take 16, .step 17, .rel 18, .take 19, .take 20])]),
  (49, [(11, [.take 0, .take 1, .take 2, .take 3, .take 4, .take 6, .take 7, .take 8, .take 9, .step 5, .rel 10, .take 11])]),
  (51, [(4, [.take 0, .take 1, .rel 2, .take 3, .take 4, .take 5, .take 6, .rel 7, .take 8, .take 9, .take 10, .take 11, .take 12, .take 13, .take 14, .take 15, .take 16, .take 17, .take 18, .rel 19, .take 20, .take 21, .take 22])]),
  (56, [(5, [.take 0, .take 1, .take 2, .take 3, .take 4, .take 5, .take 6, .rel 7])]),
  (57, [(3, [.take 0, .take 1, .take 2, .take 3, .take 4, .take 5, .rel 6, .take 7]), (4, [.take 0, .take 1, .take 2, .take 3, .take 4, .take 5, .rel 6, .take 7])]),
  (58, [(5, [.take 0, .take 1, .take 2, .take 3, .take 4, .take 5, .take 6, .take 7, .take 8, .take 10, .step 9, .rel 11, .take 12, .take 13, .take 14]), (9, [.take 0, .take 1, .take 2, .take 3, .take 4, .take 5, .take 6, .take 7, .take 8, .take 10, .take 11, .take 12, .take 13, .take 14, .take 15, .take 16, .take 17, .take 18, .step 9, .rel 19, .take 20, .take 21])]),
  (59, [(3, [.take 0, .take 1, .take 2, .take 3, .take 4, .take 5, .take 6, .take 7, .take 8, .take 9, .take 10, .take 11, .rel 12, .take 13, .take 14])]),
  (60, [(3, [.take 0, .take 1, .take 2, .take 3, .take 4, .take 6, .take 7, .take 8, .take 9, .take 10, .step 5, .rel 11, .take 12, .take 13, .take 14])]),
  (61, [(5, [.take 0, .take 1, .take 2, .take 3, .take 4, .take 5, .take 6, .take 7, .take 8, .take 9, .rel 10])]),
  (65, [(3, [.take 0, .take 1, .take 2, .rel 3, .take 4, .take 5, .take 6, .take 7, .take 8, .take 9, .take 10, .take 11, .take 12, .take 13, .take 14, .take 15, .take 16, .take 17, .take 18, .take 19, .take 20, .take 21, .rel 22, .take 23, .take 24, .take 25])]),
  (67, [(1, [.take 0, .take 2, .step 1, .rel 3, .rel 4, .take 5])]),
  (68, [(3, [.take 0, .take 1, .take 2, .take 3, .take 4, .take 5, .take 6, .take 7, .take 8, .take 9, .take 10, .take 11, .take 12, .take 13, .take 14, .take 15, .take 16, .take 17, .take 18, .take 19, .take 20, .take 21, .take 22, .take 23, .rel 24, .take 25])]),
  (71, [(7, [.take 0, .take 1, .take 2, .take 4, .take 5, .take 6, .rel 3, .rel 7, .take 8, .take 9]), (8, [.take 0, .take 1, .take 2, .take 3, .take 4, .take 5, .take 6, .take 7, .take 8, .take 10, .take 11, .take 12, .rel 9, .take 13, .rel 14, .take 15])]),
  (72, [(4, [.take 0, .take 1, .take 2, .take 3, .take 4, .take 5, .take 6, .take 7, .step 8, .take 9, .take 10, .take 11, .rel 12, .take 13])]),
  (78, [(1, [.take 0, .take 1, .take 2, .take 3, .take 4, .take 5, .take 6, .take 7, .take 8, .take 9, .take 10, .take 11, .take 12, .take 13, .take 14, .take 20, .step 15, .take 16, .take 17, .take 18, .take 19, .take 21])]),
  (85, [(5, [.take 0, .take 1, .take 3, .open 4, .fstep 2, .land, .take 5, .rel 6, .take 7]), (10, [.take 0, .take 1, .take 2, .take 3, .take 4, .take 5, .step 6, .rel 7, .take 8, .take 9, .rel 10])]),
  (101, [(1, [.take 0, .take 1, .take 2, .take 3, .take 4, .take 5, .rel 6, .take 7, .take 8])]),
  (102, [(1, [.take 0, .take 1, .take 2, .take 3, .take 4, .take 5, .rel 6, .take 7])])]
def argsLogmNone : List AV := [.ag [.y .i64 0, .y .i64 1, .y .i64 2, .y .i64 3, .y .i64 4], .ag [.y .i64 5, .y .i64 6, .y .i64 7, .y .i64 8]]
set_option maxRecDepth 100000 in
theorem ranLogmNone : okB (callA Tryz.prog [3, 4, 20, 23, 28, 29, 47, 52, 67, 71, 74, 75, 97, 106, 118] (lk planLogmNone) 200 3 argsLogmNone ⟨0, .e⟩) = true := by kernel_rfl
set_option maxRecDepth 100000 in
theorem eqsLogmNone : seB Tryz.prog [3, 4, 20, 23, 28, 29, 47, 52, 67, 71, 74, 75, 97, 106, 118] = true := by kernel_rfl
set_option maxRecDepth 100000 in
theorem namesLogmNone : nmB Tryz.prog = true := by kernel_rfl
end Go.Proofs.YtbcnabaholgfiaaGreat.Ev
