/- A function of no arguments that yields true, by the evaluator. -/
import Derived.Test.YtdnbklfdapdocaaEo
import Derived.Test.YtdnbklfdapdocaaProg
set_option linter.unusedVariables false
namespace Go.Proofs.Ytdnbklfdapdocaa
open Go Go.RowKit
def planLv23 : List (Nat × List (Nat × List Ev.PStep)) := [(29, [(5, [.take 0, .take 2, .take 3, .take 4, .take 5, .step 1, .take 6, .take 7]), (7, [.take 0, .take 1, .take 2, .take 3, .take 4, .take 5, .take 6, .take 7, .take 8, .take 9, .take 11, .open 12, .fstep 10, .land, .rel 13, .take 14, .take 15, .rel 16]), (8, [.take 0, .take 1, .take 2, .take 3, .take 4, .take 5, .take 6, .take 7, .step 8, .rel 9, .take 10]), (9, [.take 0, .take 1, .take 2, .take 3, .take 4, .take 5, .take 6, .take 7, .take 8, .step 9, .rel 10, .rel 11]), (11, [.take 0, .take 1, .take 2, .take 3, .take 4, .take 5, .take 6, .take 7, .rel 8, .take 9, .take 10, .take 11, .take 12, .take 13, .take 14, .take 15])]),
  (31, [(1, [.take 0, .take 1, .take 2, .take 3, .take 4, .take 5, .take 6, .take 7, .rel 8, .take 9, .take 10])]),
  (35, [(4, [.take 0, .take 1, .take 2, .take 3, .take 4, .take 5, .take 6, .take 8, .take 9, .take 10, .take 11, .take 12, .take 13, .take 14, .step 7, .rel 15, .take 16, .take 17])]),
  (55, [(11, [.take 0, .take 1, .take 2, .take 3, .take 4, .take 5, .take 6, .take 7, .take 8, .take 9, .take 10, .take 11, .take 12, .rel 13])]),
  (71, [(11, [.take 0, .take 1, .take 2, .take 3, .take 4, .take 5, .take 6, .take 7, .rel 8]), (15, [.take 0, .take 1, .take 2, .take 3, .take 4, .take 5, .take 6, .take 7, .rel 8])]),
  (80, [(0, [.take 0, .take 1, .take 2, .take 3, .take 4, .take 5, .take 6, .take 7, .take 8, .take 9, .take 11, .open 12, .fstep 10, .land, .rel 13, .take 14, .take 15, .rel 16])]),
  (87, [(2, [.take 0, .take 1, .take 2, .take 3, .take 5, .take 6, .step 4, .rel 7, .rel 8])]),
  (88, [(5, [.take 0, .take 1, .take 2, .take 3, .take 4, .take 5, .take 6, .take 7, .rel 8, .take 9, .take 10, .take 11, .take 12, .take 13, .take 14, .take 15])]),
  (97, [(2, [.take 0, .take 1, .take 2, .take 3, .take 4, .take 5, .take 6, .take 7, .take 8, .take 9, .take 10, .take 11, .take 12, .take 13, .take 14, .take 15, .take 16, .step 17, .rel 18, .take 19, .take 20, .rel 21]), (4, [.take 0, .take 1, .take 2, .take 3, .take 4, .take 5, .take 6, .take 7, .rel 8, .take 9, .take 10, .take 11, .take 12, .take 13])]),
  (108, [(4, [.take 0, .take 1, .rel 2, .take 3, .take 4, .take 5, .take 6, .rel 7, .take 8, .take 9, .take 10, .take 11, .take 12, .take 13, .take 14, .take 15, .take 16, .take 17, .take 18, .rel 19, .take 20, .take 21, .take 22])]),
  (137, [(3, [.take 0, .take 1, .take 2, .take 3, .take 4, .take 5, .take 6, .take 7])]),
  (138, [(11, [.take 0, .take 1, .take 2, .take 3, .take 4, .take 5, .take 6, .take 7, .rel 8]), (15, [.take 0, .take 1, .take 2, .take 3, .take 4, .take 5, .take 6, .take 7, .rel 8])]),
  (144, [(1, [.take 0, .take 1, .rel 2, .take 3, .take 4, .take 5, .take 6, .take 7, .take 8, .take 9, .take 10, .rel 11, .take 12, .take 13, .take 14, .take 15, .take 16, .take 17, .take 18, .take 19, .take 20, .rel 21, .take 22, .take 23, .take 24])]),
  (146, [(11, [.take 0, .take 1, .take 2, .take 3, .take 4, .take 5, .take 6, .take 7, .take 8, .take 9, .take 10, .take 11, .take 12, .rel 13])]),
  (148, [(0, [.take 0, .take 1, .take 2, .take 3, .take 4, .take 5, .take 6, .step 7, .rel 8, .take 9, .take 10, .rel 11])]),
  (181, [(1, [.take 0, .take 1, .take 2, .take 3, .take 4, .take 5, .rel 6, .take 7, .take 8])]),
  (191, [(6, [.take 0, .take 1, .take 2, .take 3, .take 5, .take 6, .take 7, .take 8, .step 4, .rel 9, .take 10, .take 11, .take 12, .rel 13])]),
  (192, [(1, [.take 0, .take 1, .take 2, .take 3, .take 4, .take 5, .take 6, .take 7, .take 8, .take 9, .take 10, .take 11, .take 12, .take 13, .take 14, .take 15])]),
  (194, [(4, [.take 0, .take 1, .rel 2, .take 3, .take 4, .take 5, .take 6, .rel 7, .take 8, .take 9, .take 10, .take 11, .take 12, .take 13, .take 14, .take 15, .take 16, .take 17, .take 18, .rel 19, .take 20, .take 21, .take 22])]),
  (195, [(1, [.take 0, .take 1, .take 2, .take 3, .take 4, .take 5, .rel 6, .take 7])]),
  (208, [(3, [.take 0, .take 1, .take 2, .take 3, .take 4, .take 5, .take 6, .take 7, .take 8, .take 9, .take 10, .take 11, .take 12, .rel 13, .take 14, .rel 15])]),
  (209, [(1, [.take 0, .take 1, .take 2, .take 3, .take 4, .take 5, .rel 6, .take 7, .take 8])]),
  (211, [(1, [.take 0, .take 1, .take 2, .take 3, .take 4, .take 5, .rel 6, .take 7])]),
  (221, [(3, [.take 0, .take 1, .take 2, .take 3, .take 4, .take 5, .take 6, .take 7, .take 8, .take 9, .take 10, .take 11, .take 12, .rel 13, .take 14, .rel 15])])]
set_option maxRecDepth 100000 in
theorem eqsLv23 : Ev.seB Try.prog [3, 20, 46, 47, 52, 61, 92] = true := by kernel_rfl
set_option maxRecDepth 100000 in
theorem namesLv23 : Ev.nmB Try.prog = true := by kernel_rfl
set_option maxRecDepth 100000 in
theorem ranLv23 : Ev.okB (Ev.callA Try.prog [3, 20, 46, 47, 52, 61, 92] (Ev.lk planLv23) 200 44 [] ⟨0, .e⟩) = true := by kernel_rfl
theorem lives23 (w : World) : Calls Try.prog 44 #[] w fun e w' => e = .returned (.bool true) ∧ Below w.heap.size w w' :=
  Ev.run_law (P := Try.prog) (by kernel_rfl) namesLv23 eqsLv23 ranLv23 (by simp) (Ev.sgOf fun _ => 0) (Ev.sgOf_ok _) w
end Go.Proofs.Ytdnbklfdapdocaa
