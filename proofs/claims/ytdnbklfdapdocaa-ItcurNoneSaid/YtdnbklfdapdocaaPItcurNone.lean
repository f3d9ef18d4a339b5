/- The plan of the evaluator's run of 'alidadelaw21.ItcurNone', and that it comes out true. -/
import Derived.Test.YtdnbklfdapdocaaEo
import Derived.Test.YtdnbklfdapdocaaProg
set_option linter.unusedVariables false
namespace Go.Proofs.Ytdnbklfdapdocaa.Ev
def planItcurNone : List (Nat × List (Nat × List PStep)) := [(55, [(11, [.take 0, .take 1, .take 2, .take 3, .take 4, .take 5, .take 6, .take 7, .take 8, .take 9, .take 10, .take 11, .take 12, .rel 13])]),
  (61, [(2, [.take 0, .take 1, .take 2, .take 3, .take 4, .take 5, .take 6, .take 7, .take 8, .rel 9, .take 10, .take 11, .take 12, .take 13, .take 14]), (7, [.take 0, .take 1, .take 2, .take 3, .take 4, .take 5, .take 6, .take 7, .step 8, .rel 9, .take 10])]),
  (67, [(3, [.take 0, .take 1, .take 2, .take 3, .take 4, .take 5, .take 6, .take 7, .take 8, .take 9, .take 10, .take 11, .rel 12, .take 13, .take 14])]),
  (69, [(5, [.take 0, .take 2, .take 3, .take 4, .take 5, .step 1, .take 6, .take 7]), (9, [.take 0, .take 1, .take 2, .take 3, .take 4, .take 5, .take 6, .take 7, .rel 8, .take 9]), (11, [.take 0, .take 1, .take 2, .take 3, .take 4, .take 5, .take 7, .open 8, .fstep 6, .land, .take 9, .take 10, .rel 11, .take 12])]),
  (71, [(11, [.take 0, .take 1, .take 2, .take 3, .take 4, .take 5, .take 6, .take 7, .rel 8]), (15, [.take 0, .take 1, .take 2, .take 3, .take 4, .take 5, .take 6, .take 7, .rel 8])]),
  (87, [(2, [.take 0, .take 1, .take 2, .take 3, .take 5, .take 6, .step 4, .rel 7, .rel 8])]),
  (108, [(4, [.take 0, .take 1, .rel 2, .take 3, .take 4, .take 5, .take 6, .rel 7, .take 8, .take 9, .take 10, .take 11, .take 12, .take 13, .take 14, .take 15, .take 16, .take 17, .take 18, .rel 19, .take 20, .take 21, .take 22])]),
  (117, [(8, [.take 0, .take 1, .take 2, .take 3, .take 4, .take 5, .take 6, .take 7, .take 8, .take 9, .take 10, .take 11, .take 12, .step 13, .rel 14])]),
  (121, [(4, [.take 0, .take 1, .take 2, .take 4, .take 5, .rel 3, .take 6, .take 7, .take 8]), (6, [.take 0, .take 1, .take 2, .take 3, .take 4, .rel 5])]),
  (124, [(4, [.take 0, .take 1, .take 2, .take 3, .take 4, .take 5, .take 8, .take 11, .take 12, .open 9, .fstep 6, .fstep 7, .land, .rel 10, .take 13, .rel 14])]),
  (126, [(3, [.take 0, .take 1, .take 2, .take 3, .take 4, .take 5, .take 6, .take 7, .take 8, .take 10, .take 11, .take 12, .rel 9, .take 13, .rel 14])]),
  (144, [(1, [.take 0, .take 1, .rel 2, .take 3, .take 4, .take 5, .take 6, .take 7, .take 8, .take 9, .take 10, .rel 11, .take 12, .take 13, .take 14, .take 15, .take 16, .take 17, .take 18, .take 19, .take 20, .rel 21, .take 22, .take 23, .take 24])]),
  (146, [(11, [.take 0, .take 1, .take 2, .take 3, .take 4, .take 5, .take 6, .take 7, .take 8, .take 9, .take 10, .take 11, .take 12, .rel 13])]),
  (168, [(4, [.take 0, .take 1, .take 2, .take 3, .take 4, .take 5, .take 6, .take 7, .step 8, .take 9, .take 10, .take 11, .take 12, .take 13])]),
  (171, [(1, [.take 0, .take 1, .take 2, .take 3, .take 4, .take 5, .step 6, .rel 7, .take 8])]),
  (173, [(1, [.take 0, .take 1, .take 2, .take 3, .take 4, .take 5, .take 6])]),
  (175, [(1, [.take 0, .take 1, .take 2, .take 3, .take 4, .take 6, .take 7, .take 8, .take 9, .take 10, .take 13, .take 14, .take 15, .take 16, .take 17, .take 18, .step 5, .step 11, .take 12, .take 19, .take 20])]),
  (177, [(19, [.take 0, .take 1, .take 2, .take 3, .take 4, .step 5, .rel 6, .take 7, .rel 8]), (24, [.take 0, .take 1, .take 2, .take 3, .take 6, .take 7, .rel 4, .rel 5, .take 8, .rel 9]), (29, [.take 0, .take 1, .take 2, .take 3, .take 4, .take 6, .take 7, .rel 5, .take 8, .rel 9])]),
  (181, [(1, [.take 0, .take 1, .take 2, .take 3, .take 4, .take 5, .rel 6, .take 7, .take 8])]),
  (194, [(4, [.take 0, .take 1, .rel 2, .take 3, .take 4, .take 5, .take 6, .rel 7, .take 8, .take 9, .take 10, .take 11, .take 12, .take 13, .take 14, .take 15, .take 16, .take 17, .take 18, .rel 19, .take 20, .take 21, .take 22])]),
  (195, [(1, [.take 0, .take 1, .take 2, .take 3, .take 4, .take 5, .rel 6, .take 7])]),
  (204, [(1, [.take 0, .take 2, .step 1, .rel 3, .rel 4, .take 5])]),
  (208, [(3, [.take 0, .take 1, .take 2, .take 3, .take 4, .take 5, .take 6, .take 7, .take 8, .take 9, .take 10, .take 11, .take 12, .rel 13, .take 14, .rel 15])]),
  (233, [(2, [.take 0, .take 1, .take 2, .take 3, .take 4, .take 5, .take 6, .take 7, .take 8, .take 9, .take 10, .take 11, .take 12, .take 13, .take 14, .take 16, .step 15, .rel 17, .take 18, .take 19, .take 20]), (6, [.take 0, .take 1, .take 2, .take 4, .take 5, .take 6, .step 3, .take 7, .take 8, .step 9, .rel 10, .rel 11])])]
def argsItcurNone_0 : List AV := [.y .i64 0, .y .i64 1000]
set_option maxRecDepth 100000 in
theorem ranItcurNone_0 : okB (callA Try.prog [3, 20, 37, 52, 77, 80, 81] (lk planItcurNone) 200 4 argsItcurNone_0 ⟨0, .e⟩) = true := by kernel_rfl
def argsItcurNone_1 : List AV := [.y .i64 0, .y .i64 2000]
set_option maxRecDepth 100000 in
theorem ranItcurNone_1 : okB (callA Try.prog [3, 20, 37, 52, 77, 80, 81] (lk planItcurNone) 200 4 argsItcurNone_1 ⟨0, .e⟩) = true := by kernel_rfl
def sigItcurNone (a0 a1 : Int) (c j : Nat) : Int := match Nat.beq j c with
  | true => a1
  | false => ([a0] : List Int).getD j 0
set_option maxRecDepth 100000 in
theorem eqsItcurNone : seB Try.prog [3, 20, 37, 52, 77, 80, 81] = true := by kernel_rfl
set_option maxRecDepth 100000 in
theorem namesItcurNone : nmB Try.prog = true := by kernel_rfl
end Go.Proofs.Ytdnbklfdapdocaa.Ev
