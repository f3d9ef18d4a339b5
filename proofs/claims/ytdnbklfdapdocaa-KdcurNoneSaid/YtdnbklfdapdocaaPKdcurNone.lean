/- The plan of the evaluator's run of 'alidadelaw13.KdcurNone', and that it comes out true. -/
import Derived.Test.YtdnbklfdapdocaaEo
import Derived.Test.YtdnbklfdapdocaaProg
set_option linter.unusedVariables false
namespace Go.Proofs.Ytdnbklfdapdocaa.Ev
def planKdcurNone : List (Nat × List (Nat × List PStep)) := [(53, [(3, [.take 0, .take 1, .take 2, .take 3, .take 4, .take 5, .take 6, .rel 7, .take 8]), (6, [.take 0, .take 1, .take 2, .take 3, .take 4, .take 5, .take 6, .step 7, .rel 8, .take 9, .take 10, .rel 11]), (11, [.take 0, .take 1, .take 2, .take 3, .take 4, .take 5, .take 6, .take 7, .open 13, .fstep 8, .fstep 9, .take 10, .take 11, .take 12, .land, .rel 14, .take 15]), (13, [.take 0, .take 1, .take 2, .take 3, .take 4, .take 5, .take 6, .take 7, .step 8, .rel 9, .take 10])]),
  (55, [(11, [.take 0, .take 1, .take 2, .take 3, .take 4, .take 5, .take 6, .take 7, .take 8, .take 9, .take 10, .take 11, .take 12, .rel 13])]),
  (57, [(3, [.take 0, .take 1, .take 2, .take 3, .take 4, .take 5, .take 6, .take 7, .step 8, .take 9, .rel 10, .take 11])]),
  (60, [(5, [.take 0, .take 1, .take 2, .take 3, .take 4, .take 5, .take 6, .take 7, .take 8, .take 9, .take 10]), (8, [.take 0, .take 2, .take 3, .take 4, .take 5, .step 1, .take 6, .take 7])]),
  (100, [(3, [.take 0, .take 1, .take 2, .take 3, .take 4, .take 5, .take 6, .take 7, .step 8, .take 9])]),
  (105, [(3, [.take 0, .take 1, .take 2, .take 3, .take 4, .take 5, .take 6, .take 7, .take 8, .take 9, .take 10, .take 11, .rel 12, .take 13, .take 14])]),
  (108, [(4, [.take 0, .take 1, .rel 2, .take 3, .take 4, .take 5, .take 6, .rel 7, .take 8, .take 9, .take 10, .take 11, .take 12, .take 13, .take 14, .take 15, .take 16, .take 17, .take 18, .rel 19, .take 20, .take 21, .take 22])]),
  (112, [(5, [.take 0, .take 1, .take 2, .take 3, .take 4, .take 5]), (6, [.take 0, .take 1, .take 4, .take 5, .take 6, .take 7, .take 8, .take 10, .take 11, .step 2, .take 3, .rel 9, .take 12, .take 13, .take 14])]),
  (114, [(3, [.take 0, .take 1, .take 2, .take 3, .take 5, .take 6, .take 7, .take 8, .step 4, .take 9, .take 10])]),
  (115, [(12, [.take 0, .take 1, .take 2, .take 3, .take 4, .take 5, .take 6, .take 7, .take 8, .take 9, .take 10, .rel 11])]),
  (157, [(4, [.take 0, .take 1, .take 2, .take 3, .take 4, .take 5, .take 6, .take 7, .step 8, .take 9, .take 10, .take 11, .take 12, .take 13])]),
  (160, [(1, [.take 0, .take 2, .take 3, .step 1, .rel 4, .take 5])]),
  (163, [(3, [.take 0, .take 1, .take 2, .take 3, .take 4, .take 5, .take 6, .take 7, .take 8, .take 9, .take 10, .take 12, .take 13, .take 14, .rel 11, .take 15, .rel 16])]),
  (164, [(2, [.take 0, .take 1, .take 2, .take 3, .take 4, .take 5, .take 6, .take 7, .take 8, .take 9, .take 10, .take 11, .take 12, .take 13, .take 14, .take 15, .take 16, .take 17, .take 18, .take 19, .take 20, .take 21, .take 22, .take 23, .take 24, .take 25, .take 26, .take 27, .take 28, .take 29, .take 30, .take 31, .take 32, .take 33, .take 34, .take 35, .rel 36])]),
  (165, [(1, [.take 0, .take 1, .take 2, .take 3, .take 4, .take 6, .take 7, .take 8, .take 9, .take 10, .take 13, .take 14, .take 15, .take 16, .take 17, .take 18, .step 5, .step 11, .take 12, .take 19, .take 20])]),
  (197, [(3, [.take 0, .step 1, .rel 2, .rel 3, .rel 4]), (6, [.take 0, .take 1, .take 2, .step 3, .rel 4, .rel 5]), (7, [.take 0, .take 1, .take 2, .take 3, .step 4, .rel 5, .rel 6]), (8, [.take 0, .take 1, .take 2, .take 3, .take 4, .take 5, .step 6, .step 7, .rel 8, .rel 9])]),
  (199, [(6, [.take 0, .take 1, .take 2, .take 3, .take 4, .take 5, .take 6, .take 7, .take 8, .take 9, .take 10, .take 11, .take 12, .take 13, .take 14, .take 15, .take 16, .take 17, .take 18, .take 19, .take 20, .take 21, .take 22, .take 23, .take 24, .take 25, .take 26, .take 27, .take 28, .take 29, .take 30, .take 31, .take 32, .rel 33])]),
  (201, [(1, [.take 0, .take 1, .take 2, .take 3, .take 4, .take 5, .take 6, .take 7, .take 8, .take 9, .step 10, .rel 11, .rel 12])]),
  (212, [(1, [.take 0, .take 2, .step 1, .rel 3, .rel 4, .take 5])]),
  (214, [(2, [.take 0, .step 1, .rel 2, .rel 3, .rel 4])]),
  (218, [(3, [.take 0, .take 1, .take 2, .take 3, .take 4, .take 5, .take 6, .take 7, .take 8, .take 9, .take 10, .take 11, .take 12, .take 13, .take 14, .take 15, .take 16, .step 17, .rel 18])]),
  (225, [(2, [.take 0, .take 1, .take 2, .take 3, .take 4, .take 5, .take 6, .take 7, .take 8, .take 9, .take 10, .take 11, .take 12, .take 13, .take 14, .take 16, .step 15, .rel 17, .take 18, .take 19, .rel 20]), (6, [.take 0, .take 1, .take 2, .take 4, .take 5, .take 6, .step 3, .take 7, .take 8, .step 9, .rel 10, .rel 11])]),
  (226, [(11, [.take 0, .take 1, .take 2, .take 3, .take 4, .take 5, .take 6, .take 7, .take 8, .take 9, .take 10, .take 11, .take 12, .rel 13])]),
  (231, [(4, [.take 0, .take 1, .rel 2, .take 3, .take 4, .take 5, .take 6, .rel 7, .take 8, .take 9, .take 10, .take 11, .take 12, .take 13, .take 14, .take 15, .take 16, .take 17, .take 18, .rel 19, .take 20, .take 21, .take 22])])]
def argsKdcurNone_0 : List AV := [.ag [.y .i64 0, .y .i64 1, .y .i64 2, .y .i64 3], .y .i64 1000]
set_option maxRecDepth 100000 in
theorem ranKdcurNone_0 : okB (callA Try.prog [3, 20, 24, 52, 64, 67, 70, 76] (lk planKdcurNone) 200 3 argsKdcurNone_0 ⟨0, .e⟩) = true := by kernel_rfl
def argsKdcurNone_1 : List AV := [.ag [.y .i64 0, .y .i64 1, .y .i64 2, .y .i64 3], .y .i64 2000]
set_option maxRecDepth 100000 in
theorem ranKdcurNone_1 : okB (callA Try.prog [3, 20, 24, 52, 64, 67, 70, 76] (lk planKdcurNone) 200 3 argsKdcurNone_1 ⟨0, .e⟩) = true := by kernel_rfl
def sigKdcurNone (a0_0 a0_1 a0_2 a0_3 a1 : Int) (c j : Nat) : Int := match Nat.beq j c with
  | true => a1
  | false => ([a0_0, a0_1, a0_2, a0_3] : List Int).getD j 0
set_option maxRecDepth 100000 in
theorem eqsKdcurNone : seB Try.prog [3, 20, 24, 52, 64, 67, 70, 76] = true := by kernel_rfl
set_option maxRecDepth 100000 in
theorem namesKdcurNone : nmB Try.prog = true := by kernel_rfl
end Go.Proofs.Ytdnbklfdapdocaa.Ev
