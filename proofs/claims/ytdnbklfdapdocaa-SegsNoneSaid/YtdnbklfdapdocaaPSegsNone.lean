/- The plan of the evaluator's runs of 'alidadelaw22.SegsNone'. -/
import Derived.Test.YtdnbklfdapdocaaEo
import Derived.Test.YtdnbklfdapdocaaProg
set_option linter.unusedVariables false
namespace Go.Proofs.Ytdnbklfdapdocaa.Ev
def planSegsNone : List (Nat × List (Nat × List PStep)) := [(28, [(3, [.take 0, .take 1, .take 2, .take 3, .take 4, .take 5, .take 6, .take 7, .take 8, .take 9])]),
  (29, [(5, [.take 0, .take 2, .take 3, .take 4, .take 5, .step 1, .take 6, .take 7]), (7, [.take 0, .take 1, .take 2, .take 3, .take 4, .take 5, .take 6, .take 7, .take 8, .take 9, .take 11, .open 12, .fstep 10, .land, .rel 13, .take 14, .take 15, .rel 16]), (8, [.take 0, .take 1, .take 2, .take 3, .take 4, .take 5, .take 6, .take 7, .step 8, .rel 9, .take 10]), (9, [.take 0, .take 1, .take 2, .take 3, .take 4, .take 5, .take 6, .take 7, .take 8, .step 9, .rel 10, .rel 11]), (11, [.take 0, .take 1, .take 2, .take 3, .take 4, .take 5, .take 6, .take 7, .rel 8, .take 9, .take 10, .take 11, .take 12, .take 13, .take 14, .take 15])]),
  (30, [(5, [.take 0, .take 1, .take 2, .take 3, .take 4, .rel 5, .take 6]), (7, [.take 0, .take 1, .take 2, .take 3, .take 5, .take 6, .take 7, .take 8, .take 9, .take 10, .take 11, .step 4, .take 12]), (10, [.take 0, .take 1, .take 2, .take 3, .take 4, .take 5, .take 6, .take 7, .rel 8, .take 9, .take 10, .take 11, .take 12, .take 13, .take 14, .take 15])]),
  (31, [(1, [.take 0, .take 1, .take 2, .take 3, .take 4, .take 5, .take 6, .take 7, .rel 8, .take 9, .take 10])]),
  (35, [(4, [.take 0, .take 1, .take 2, .take 3, .take 4, .take 5, .take 6, .take 8, .take 9, .take 10, .take 11, .take 12, .take 13, .take 14, .step 7, .rel 15, .take 16, .take 17])]),
  (40, [(1, [.take 0, .take 1, .take 2, .take 3, .take 4, .take 5, .take 6, .take 7, .take 8, .take 9, .take 10, .take 11, .take 12, .take 13, .take 14, .take 15, .take 17, .take 18, .take 19, .take 20, .take 21, .take 22, .take 23, .step 16, .take 24, .take 25, .take 26, .take 27, .take 28, .take 29, .take 30, .take 31, .step 32, .rel 33, .take 34, .take 35]), (6, [.take 0, .rel 1, .take 2, .take 3, .take 4, .take 5, .take 6, .take 7, .take 8, .take 9, .take 10, .take 11, .take 12, .take 13, .take 14, .take 15, .rel 16, .take 17, .take 18, .take 19])]),
  (55, [(11, [.take 0, .take 1, .take 2, .take 3, .take 4, .take 5, .take 6, .take 7, .take 8, .take 9, .take 10, .take 11, .take 12, .rel 13])]),
  (71, [(11, [.take 0, .take 1, .take 2, .take 3, .take 4, .take 5, .take 6, .take 7, .rel 8]), (15, [.take 0, .take 1, .take 2, .take 3, .take 4, .take 5, .take 6, .take 7, .rel 8])]),
  (80, [(0, [.take 0, .take 1, .take 2, .take 3, .take 4, .take 5, .take 6, .take 7, .take 8, .take 9, .take 11, .open 12, .fstep 10, .land, .rel 13, .take 14, .take 15, .rel 16])]),
  (81, [(5, [.take 0, .take 1, .take 2, .take 3, .take 4, .take 5, .rel 6, .take 7])]),
  (87, [(2, [.take 0, .take 1, .take 2, .take 3, .take 5, .take 6, .step 4, .rel 7, .rel 8])]),
  (88, [(5, [.take 0, .take 1, .take 2, .take 3, .take 4, .take 5, .take 6, .take 7, .rel 8, .take 9, .take 10, .take 11, .take 12, .take 13, .take 14, .take 15])]),
  (95, [(3, [.take 0, .take 1, .take 2, .take 3, .take 4, .take 5, .take 6, .take 7, .take 8, .take 9, .take 10, .take 11, .take 12, .take 13, .take 14, .take 15, .take 16, .take 17, .take 18, .take 19, .take 20, .take 21, .take 22, .take 23, .take 24, .take 25, .take 26, .take 27, .take 28, .rel 29, .take 30, .take 31]), (5, [.take 0, .take 1, .take 2, .take 3, .take 4, .take 5, .take 6, .take 7, .take 8, .take 9, .rel 10, .take 11, .take 12, .take 13, .take 14, .take 15, .take 16, .take 17, .take 18, .take 19, .take 20, .take 21, .rel 22, .take 23, .take 24])]),
  (108, [(4, [.take 0, .take 1, .rel 2, .take 3, .take 4, .take 5, .take 6, .rel 7, .take 8, .take 9, .take 10, .take 11, .take 12, .take 13, .take 14, .take 15, .take 16, .take 17, .take 18, .rel 19, .take 20, .take 21, .take 22])]),
  (137, [(3, [.take 0, .take 1, .take 2, .take 3, .take 4, .take 5, .take 6, .take 7])]),
  (138, [(11, [.take 0, .take 1, .take 2, .take 3, .take 4, .take 5, .take 6, .take 7, .rel 8]), (15, [.take 0, .take 1, .take 2, .take 3, .take 4, .take 5, .take 6, .take 7, .rel 8])]),
  (142, [(5, [.take 0, .take 1, .take 2, .take 3, .take 4, .take 5, .rel 6, .take 7])]),
  (144, [(1, [.take 0, .take 1, .rel 2, .take 3, .take 4, .take 5, .take 6, .take 7, .take 8, .take 9, .take 10, .rel 11, .take 12, .take 13, .take 14, .take 15, .take 16, .take 17, .take 18, .take 19, .take 20, .rel 21, .take 22, .take 23, .take 24])]),
  (146, [(11, [.take 0, .take 1, .take 2, .take 3, .take 4, .take 5, .take 6, .take 7, .take 8, .take 9, .take 10, .take 11, .take 12, .rel 13])]),
  (148, [(0, [.take 0, .take 1, .take 2, .take 3, .take 4, .take 5, .take 6, .step 7, .rel 8, .take 9, .take 10, .rel 11])]),
  (156, [(6, [.take 0, .take 1, .take 2, .take 3, .take 4, .take 5, .take 6, .take 7, .take 8])]),
  (181, [(1, [.take 0, .take 1, .take 2, .take 3, .take 4, .take 5, .rel 6, .take 7, .take 8])]),
  (191, [(6, [.take 0, .take 1, .take 2, .take 3, .take 5, .take 6, .take 7, .take 8, .step 4, .rel 9, .take 10, .take 11, .take 12, .rel 13])]),
  (192, [(1, [.take 0, .take 1, .take 2, .take 3, .take 4, .take 5, .take 6, .take 7, .take 8, .take 9, .take 10, .take 11, .take 12, .take 13, .take 14, .take 15])]),
  (194, [(4, [.take 0, .take 1, .rel 2, .take 3, .take 4, .take 5, .take 6, .rel 7, .take 8, .take 9, .take 10, .take 11, .take 12, .take 13, .take 14, .take 15, .take 16, .take 17, .take 18, .rel 19, .take 20, .take 21, .take 22])]),
  (195, [(1, [.take 0, .take 1, .take 2, .take 3, .take 4, .take 5, .rel 6, .take 7])]),
  (208, [(3, [.take 0, .take 1, .take 2, .take 3, .take 4, .take 5, .take 6, .take 7, .take 8, .take 9, .take 10, .take 11, .take 12, .rel 13, .take 14, .rel 15])]),
  (209, [(1, [.take 0, .take 1, .take 2, .take 3, .take 4, .take 5, .rel 6, .take 7, .take 8])]),
  (211, [(1, [.take 0, .take 1, .take 2, .take 3, .take 4, .take 5, .rel 6, .take 7])]),
  (221, [(3, [.take 0, .take 1, .take 2, .take 3, .take 4, .take 5, .take 6, .take 7, .take 8, .take 9, .take 10, .take 11, .take 12, .rel 13, .take 14, .rel 15])])]
set_option maxRecDepth 100000 in
theorem eqsSegsNone : seB Try.prog [3, 20, 46, 47, 52, 92] = true := by kernel_rfl
set_option maxRecDepth 100000 in
theorem namesSegsNone : nmB Try.prog = true := by kernel_rfl
end Go.Proofs.Ytdnbklfdapdocaa.Ev
