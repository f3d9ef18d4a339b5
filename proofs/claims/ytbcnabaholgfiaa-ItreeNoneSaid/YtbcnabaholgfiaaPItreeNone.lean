/- The plan of the evaluator's runs of 'alidadelaw20.ItreeNone'. -/
import Derived.Test.YtbcnabaholgfiaaEo
import Derived.Test.YtbcnabaholgfiaaProg
set_option linter.unusedVariables false
namespace Go.Proofs.Ytbcnabaholgfiaa.Ev
def planItreeNone : List (Nat × List (Nat × List PStep)) := [(4, [(8, [.take 0, .take 1, .take 2, .take 3, .take 4, .take 5, .take 6, .take 7, .take 8, .take 9, .take 10, .take 11, .take 12, .step 13, .rel 14])]),
  (5, [(5, [.take 0, .take 2, .take 3, .take 4, .take 5, .step 1, .take 6, .take 7]), (9, [.take 0, .take 1, .take 2, .take 3, .take 4, .take 5, .take 6, .take 7, .rel 8, .take 9]), (11, [.take 0, .take 1, .take 2, .take 3, .take 4, .take 5, .take 7, .open 8, .fstep 6, .land, .take 9, .take 10, .rel 11, .take 12])]),
  (6, [(6, [.take 0, .take 2, .step 1, .rel 3])]),
  (14, [(1, [.take 0, .take 1, .take 2, .take 3, .take 5, .take 6, .take 7, .take 8, .step 4, .take 9, .take 10, .take 11, .take 12, .take 13, .take 14, .take 15, .rel 16, .take 17, .take 18])]),
  (18, [(11, [.take 0, .take 1, .take 2, .take 3, .take 4, .take 5, .take 6, .take 7, .take 8, .take 9, .take 10, .take 11, .take 12, .rel 13])]),
  (21, [(4, [.take 0, .take 1, .take 2, .take 4, .take 5, .rel 3, .take 6, .take 7, .take 8]), (6, [.take 0, .take 1, .take 2, .take 3, .take 4, .rel 5])]),
  (24, [(4, [.take 0, .take 1, .take 2, .take 3, .take 4, .take 5, .take 8, .take 11, .take 12, .open 9, .fstep 6, .fstep 7, .land, .rel 10, .take 13, .rel 14])]),
  (26, [(3, [.take 0, .take 1, .take 2, .take 3, .take 4, .take 5, .take 6, .take 7, .take 8, .take 10, .take 11, .take 12, .rel 9, .take 13, .rel 14])]),
  (28, [(4, [.take 0, .take 1, .take 2, .step 3, .rel 4, .take 5]), (5, [.take 0, .take 1, .take 2, .take 3, .take 4, .take 5, .take 7, .take 8, .rel 6, .take 9, .rel 10])]),
  (30, [(1, [.take 0, .take 1, .take 2, .take 3, .take 4, .take 5, .step 6, .rel 7, .take 8])]),
  (35, [(3, [.take 0, .take 1, .take 2, .take 3, .take 4, .take 6, .take 7, .take 8, .take 9, .take 10, .step 5, .rel 11, .take 12, .take 13, .take 14])]),
  (36, [(9, [.take 0, .rel 1, .take 2, .take 3, .take 4, .take 5, .take 6, .take 7, .take 8, .rel 9, .take 10, .take 11, .take 12, .take 13, .take 14, .take 15, .take 16, .take 17, .take 18, .take 19, .take 20, .take 21, .take 22, .take 23, .take 24, .take 25, .take 26, .take 27, .take 28, .take 29, .take 30, .take 31, .take 32, .take 33, .rel 34, .take 35, .take 36, .take 37]), (12, [.take 0, .take 1, .take 2, .take 3, .take 4, .take 5, .step 6, .step 7, .rel 8, .take 9, .take 10, .take 11, .rel 12, .take 13]), (14, [.take 0, .take 1, .take 2, .take 3, .take 4, .take 5, .take 6, .take 7, .take 8, .take 9, .take 10, .take 13, .take 14, .take 15, .take 16, .take 17, .step 11, .take 12, .step 18, .take 19, .take 20, .take 21, .take 22, .take 23, .take 24, .take 25, .take 26, .take 27, .take 28, .take 29, .take 30, .take 31, .take 32, .take 33, .take 34, .take 35, .take 36]), (16, [.take 0, .take 1, .take 2, .take 3, .take 4, .take 5, .take 6, .take 7, .take 8, .take 9, .rel 10, .take 11, .take 12, .take 13, .take 14, .take 15, .take 16, .take 17, .take 18, .take 19, .take 20, .take 21, .rel 22, .take 23, .take 24])]),
  (43, [(4, [.take 0, .take 1, .rel 2, .take 3, .take 4, .take 5, .take 6, .rel 7, .take 8, .take 9, .take 10, .take 11, .take 12, .take 13, .take 14, .take 15, .take 16, .take 17, .take 18, .rel 19, .take 20, .take 21, .take 22])]),
  (46, [(1, [.take 0, .take 1, .take 2, .take 3, .take 4, .take 5, .take 6])]),
  (47, [(11, [.take 0, .take 1, .take 2, .take 3, .take 4, .take 5, .take 6, .take 7, .rel 8]), (15, [.take 0, .take 1, .take 2, .take 3, .take 4, .take 5, .take 6, .take 7, .rel 8])]),
  (49, [(1, [.take 0, .take 1, .take 2, .take 3, .take 4, .take 6, .take 7, .take 8, .take 9, .take 10, .take 13, .take 14, .take 15, .take 16, .take 17, .take 18, .step 5, .step 11, .take 12, .take 19, .take 20])]),
  (51, [(19, [.take 0, .take 1, .take 2, .take 3, .take 4, .step 5, .rel 6, .take 7, .rel 8]), (24, [.take 0, .take 1, .take 2, .take 3, .take 6, .take 7, .rel 4, .rel 5, .take 8, .rel 9]), (29, [.take 0, .take 1, .take 2, .take 3, .take 4, .take 6, .take 7, .rel 5, .take 8, .rel 9])]),
  (53, [(5, [.take 0, .take 1, .take 2, .take 3, .take 4, .take 5, .rel 6, .take 7])]),
  (54, [(2, [.take 0, .take 1, .take 2, .take 3, .take 5, .take 6, .step 4, .rel 7, .rel 8])]),
  (56, [(6, [.take 0, .take 1, .take 2, .take 3, .take 4, .take 5, .take 6, .take 7, .take 8])]),
  (57, [(11, [.take 0, .take 1, .take 2, .take 3, .take 4, .take 5, .take 6, .take 7, .take 8, .take 9, .take 10, .take 11, .take 12, .rel 13])]),
  (64, [(1, [.take 0, .take 2, .step 1, .rel 3, .rel 4, .take 5])]),
  (69, [(1, [.take 0, .take 1, .rel 2, .take 3, .take 4, .take 5, .take 6, .take 7, .take 8, .take 9, .take 10, .rel 11, .take 12, .take 13, .take 14, .take 15, .take 16, .take 17, .take 18, .take 19, .take 20, .rel 21, .take 22, .take 23, .take 24])]),
  (73, [(4, [.take 0, .take 1, .rel 2, .take 3, .take 4, .take 5, .take 6, .rel 7, .take 8, .take 9, .take 10, .take 11, .take 12, .take 13, .take 14, .take 15, .take 16, .take 17, .take 18, .rel 19, .take 20, .take 21, .take 22])]),
  (75, [(1, [.take 0, .take 1, .take 2, .take 3, .take 4, .take 5, .rel 6, .take 7])]),
  (76, [(1, [.take 0, .take 1, .take 2, .take 3, .take 4, .take 5, .rel 6, .take 7, .take 8])]),
  (80, [(3, [.take 0, .take 1, .take 2, .take 3, .take 4, .take 5, .take 6, .take 7, .take 8, .take 9, .take 10, .take 11, .take 12, .rel 13, .take 14, .rel 15])]),
  (84, [(2, [.take 0, .take 1, .take 2, .take 3, .take 4, .take 5, .take 6, .take 7, .take 8, .take 9, .take 10, .take 11, .take 12, .take 13, .take 14, .take 16, .step 15, .rel 17, .take 18, .take 19, .take 20]), (6, [.take 0, .take 1, .take 2, .take 4, .take 5, .take 6, .step 3, .take 7, .take 8, .step 9, .rel 10, .rel 11])])]
set_option maxRecDepth 100000 in
theorem eqsItreeNone : seB Try.prog [3, 20, 23, 27, 28, 33] = true := by kernel_rfl
set_option maxRecDepth 100000 in
theorem namesItreeNone : nmB Try.prog = true := by kernel_rfl
end Go.Proofs.Ytbcnabaholgfiaa.Ev
