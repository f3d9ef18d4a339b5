/- 'alidadelaw25.PlanChecks' comes out true: all cases. -/
import Derived.Test.YtencgokpbfkeiaaLPlanChecks0
import Derived.Test.YtencgokpbfkeiaaLPlanChecks1
import Derived.Test.YtencgokpbfkeiaaLPlanChecks2
import Derived.Test.YtencgokpbfkeiaaLPlanChecks3
import Derived.Test.YtencgokpbfkeiaaLPlanChecks4
import Derived.Test.YtencgokpbfkeiaaLPlanChecks5
set_option linter.unusedVariables false
namespace Go.Proofs.Ytencgokpbfkeiaa
open Go Go.RowKit
theorem wholePlanChecks (k b1 b2 b3 b4 w1 w2 w3 x h : Int) (w : World) : Calls Try.prog 3 #[.agg #[.int .i64 k, .int .i64 b1, .int .i64 b2, .int .i64 b3, .int .i64 b4, .int .i64 w1, .int .i64 w2, .int .i64 w3, .int .i64 x, .int .i64 h]] w fun e w' => e = .returned (.bool true) ∧ Below w.heap.size w w' := by
  rcases (by omega : (k ≤ 0) ∨ (k = 1) ∨ (k = 2) ∨ (k = 3) ∨ (k = 4) ∨ (k = 5) ∨ (k = 6) ∨ (k = 7) ∨ (8 ≤ k)) with hc0 | hc0 | hc0 | hc0 | hc0 | hc0 | hc0 | hc0 | hc0
  · exact leafPlanChecks_0 k b1 b2 b3 b4 w1 w2 w3 x h w (by omega)
  · rcases (by omega : (b1 ≤ (-1099511627777)) ∨ (1099511627777 ≤ b1) ∨ ((-1099511627776) ≤ b1 ∧ b1 ≤ 1099511627776)) with hc1 | hc1 | hc1
    · exact leafPlanChecks_1 k b1 b2 b3 b4 w1 w2 w3 x h w (by omega) (by omega)
    · exact leafPlanChecks_2 k b1 b2 b3 b4 w1 w2 w3 x h w (by omega) (by omega)
    · rcases (by omega : (b2 ≤ (-1099511627777)) ∨ (1099511627777 ≤ b2) ∨ ((-1099511627776) ≤ b2 ∧ b2 ≤ 1099511627776)) with hc2 | hc2 | hc2
      · exact leafPlanChecks_3 k b1 b2 b3 b4 w1 w2 w3 x h w (by omega) (by omega) (by omega) (by omega)
      · exact leafPlanChecks_4 k b1 b2 b3 b4 w1 w2 w3 x h w (by omega) (by omega) (by omega) (by omega)
      · rcases (by omega : (b3 ≤ (-1099511627777)) ∨ (1099511627777 ≤ b3) ∨ ((-1099511627776) ≤ b3 ∧ b3 ≤ 1099511627776)) with hc3 | hc3 | hc3
        · exact leafPlanChecks_5 k b1 b2 b3 b4 w1 w2 w3 x h w (by omega) (by omega) (by omega) (by omega) (by omega) (by omega)
        · exact leafPlanChecks_6 k b1 b2 b3 b4 w1 w2 w3 x h w (by omega) (by omega) (by omega) (by omega) (by omega) (by omega)
        · rcases (by omega : (b4 ≤ (-1099511627777)) ∨ (1099511627777 ≤ b4) ∨ ((-1099511627776) ≤ b4 ∧ b4 ≤ 1099511627776)) with hc4 | hc4 | hc4
          · exact leafPlanChecks_7 k b1 b2 b3 b4 w1 w2 w3 x h w (by omega) (by omega) (by omega) (by omega) (by omega) (by omega) (by omega) (by omega)
          · exact leafPlanChecks_8 k b1 b2 b3 b4 w1 w2 w3 x h w (by omega) (by omega) (by omega) (by omega) (by omega) (by omega) (by omega) (by omega)
          · rcases (by omega : (b1 < b2) ∨ (b2 = b1) ∨ (b2 < b1)) with hc5 | hc5 | hc5
            · rcases (by omega : (b3 < b4) ∨ (b4 = b3) ∨ (b4 < b3)) with hc6 | hc6 | hc6
              · exact leafPlanChecks_9 k b1 b2 b3 b4 w1 w2 w3 x h w (by omega) (by omega) (by omega) (by omega) (by omega) (by omega) (by omega) (by omega) (by omega) (by omega) (by omega)
              · exact leafPlanChecks_10 k b1 b2 b3 b4 w1 w2 w3 x h w (by omega) (by omega) (by omega) (by omega) (by omega) (by omega) (by omega) (by omega) (by omega) (by omega) (by omega)
              · exact leafPlanChecks_11 k b1 b2 b3 b4 w1 w2 w3 x h w (by omega) (by omega) (by omega) (by omega) (by omega) (by omega) (by omega) (by omega) (by omega) (by omega) (by omega)
            · rcases (by omega : (b3 < b4) ∨ (b4 = b3) ∨ (b4 < b3)) with hc6 | hc6 | hc6
              · exact leafPlanChecks_12 k b1 b2 b3 b4 w1 w2 w3 x h w (by omega) (by omega) (by omega) (by omega) (by omega) (by omega) (by omega) (by omega) (by omega) (by omega) (by omega)
              · exact leafPlanChecks_13 k b1 b2 b3 b4 w1 w2 w3 x h w (by omega) (by omega) (by omega) (by omega) (by omega) (by omega) (by omega) (by omega) (by omega) (by omega) (by omega)
              · exact leafPlanChecks_14 k b1 b2 b3 b4 w1 w2 w3 x h w (by omega) (by omega) (by omega) (by omega) (by omega) (by omega) (by omega) (by omega) (by omega) (by omega) (by omega)
            · exact leafPlanChecks_15 k b1 b2 b3 b4 w1 w2 w3 x h w (by omega) (by omega) (by omega) (by omega) (by omega) (by omega) (by omega) (by omega) (by omega) (by omega)
  · rcases (by omega : (b1 ≤ (-1099511627777)) ∨ (1099511627777 ≤ b1) ∨ ((-1099511627776) ≤ b1 ∧ b1 ≤ 1099511627776)) with hc1 | hc1 | hc1
    · exact leafPlanChecks_16 k b1 b2 b3 b4 w1 w2 w3 x h w (by omega) (by omega)
    · exact leafPlanChecks_17 k b1 b2 b3 b4 w1 w2 w3 x h w (by omega) (by omega)
    · rcases (by omega : (b2 ≤ (-1099511627777)) ∨ (1099511627777 ≤ b2) ∨ ((-1099511627776) ≤ b2 ∧ b2 ≤ 1099511627776)) with hc2 | hc2 | hc2
      · exact leafPlanChecks_18 k b1 b2 b3 b4 w1 w2 w3 x h w (by omega) (by omega) (by omega) (by omega)
      · exact leafPlanChecks_19 k b1 b2 b3 b4 w1 w2 w3 x h w (by omega) (by omega) (by omega) (by omega)
      · rcases (by omega : (b3 ≤ (-1099511627777)) ∨ (1099511627777 ≤ b3) ∨ ((-1099511627776) ≤ b3 ∧ b3 ≤ 1099511627776)) with hc3 | hc3 | hc3
        · exact leafPlanChecks_20 k b1 b2 b3 b4 w1 w2 w3 x h w (by omega) (by omega) (by omega) (by omega) (by omega) (by omega)
        · exact leafPlanChecks_21 k b1 b2 b3 b4 w1 w2 w3 x h w (by omega) (by omega) (by omega) (by omega) (by omega) (by omega)
        · rcases (by omega : (b4 ≤ (-1099511627777)) ∨ (1099511627777 ≤ b4) ∨ ((-1099511627776) ≤ b4 ∧ b4 ≤ 1099511627776)) with hc4 | hc4 | hc4
          · exact leafPlanChecks_22 k b1 b2 b3 b4 w1 w2 w3 x h w (by omega) (by omega) (by omega) (by omega) (by omega) (by omega) (by omega) (by omega)
          · exact leafPlanChecks_23 k b1 b2 b3 b4 w1 w2 w3 x h w (by omega) (by omega) (by omega) (by omega) (by omega) (by omega) (by omega) (by omega)
          · rcases (by omega : (b1 < b2) ∨ (b2 = b1) ∨ (b2 < b1)) with hc5 | hc5 | hc5
            · rcases (by omega : (b3 < b4) ∨ (b4 = b3) ∨ (b4 < b3)) with hc6 | hc6 | hc6
              · exact leafPlanChecks_24 k b1 b2 b3 b4 w1 w2 w3 x h w (by omega) (by omega) (by omega) (by omega) (by omega) (by omega) (by omega) (by omega) (by omega) (by omega) (by omega)
              · exact leafPlanChecks_25 k b1 b2 b3 b4 w1 w2 w3 x h w (by omega) (by omega) (by omega) (by omega) (by omega) (by omega) (by omega) (by omega) (by omega) (by omega) (by omega)
              · exact leafPlanChecks_26 k b1 b2 b3 b4 w1 w2 w3 x h w (by omega) (by omega) (by omega) (by omega) (by omega) (by omega) (by omega) (by omega) (by omega) (by omega) (by omega)
            · rcases (by omega : (b3 < b4) ∨ (b4 = b3) ∨ (b4 < b3)) with hc6 | hc6 | hc6
              · exact leafPlanChecks_27 k b1 b2 b3 b4 w1 w2 w3 x h w (by omega) (by omega) (by omega) (by omega) (by omega) (by omega) (by omega) (by omega) (by omega) (by omega) (by omega)
              · exact leafPlanChecks_28 k b1 b2 b3 b4 w1 w2 w3 x h w (by omega) (by omega) (by omega) (by omega) (by omega) (by omega) (by omega) (by omega) (by omega) (by omega) (by omega)
              · exact leafPlanChecks_29 k b1 b2 b3 b4 w1 w2 w3 x h w (by omega) (by omega) (by omega) (by omega) (by omega) (by omega) (by omega) (by omega) (by omega) (by omega) (by omega)
            · exact leafPlanChecks_30 k b1 b2 b3 b4 w1 w2 w3 x h w (by omega) (by omega) (by omega) (by omega) (by omega) (by omega) (by omega) (by omega) (by omega) (by omega)
  · rcases (by omega : (w1 ≤ (-1099511627777)) ∨ (1099511627777 ≤ w1) ∨ ((-1099511627776) ≤ w1 ∧ w1 ≤ 1099511627776)) with hc1 | hc1 | hc1
    · exact leafPlanChecks_31 k b1 b2 b3 b4 w1 w2 w3 x h w (by omega) (by omega)
    · exact leafPlanChecks_32 k b1 b2 b3 b4 w1 w2 w3 x h w (by omega) (by omega)
    · rcases (by omega : (w2 ≤ (-1099511627777)) ∨ (1099511627777 ≤ w2) ∨ ((-1099511627776) ≤ w2 ∧ w2 ≤ 1099511627776)) with hc2 | hc2 | hc2
      · exact leafPlanChecks_33 k b1 b2 b3 b4 w1 w2 w3 x h w (by omega) (by omega) (by omega) (by omega)
      · exact leafPlanChecks_34 k b1 b2 b3 b4 w1 w2 w3 x h w (by omega) (by omega) (by omega) (by omega)
      · rcases (by omega : (w3 ≤ (-1099511627777)) ∨ (1099511627777 ≤ w3) ∨ ((-1099511627776) ≤ w3 ∧ w3 ≤ 1099511627776)) with hc3 | hc3 | hc3
        · exact leafPlanChecks_35 k b1 b2 b3 b4 w1 w2 w3 x h w (by omega) (by omega) (by omega) (by omega) (by omega) (by omega)
        · exact leafPlanChecks_36 k b1 b2 b3 b4 w1 w2 w3 x h w (by omega) (by omega) (by omega) (by omega) (by omega) (by omega)
        · rcases (by omega : (w1 < w2) ∨ (w2 = w1) ∨ (w2 < w1)) with hc4 | hc4 | hc4
          · exact leafPlanChecks_37 k b1 b2 b3 b4 w1 w2 w3 x h w (by omega) (by omega) (by omega) (by omega) (by omega) (by omega) (by omega) (by omega)
          · exact leafPlanChecks_38 k b1 b2 b3 b4 w1 w2 w3 x h w (by omega) (by omega) (by omega) (by omega) (by omega) (by omega) (by omega) (by omega)
          · exact leafPlanChecks_39 k b1 b2 b3 b4 w1 w2 w3 x h w (by omega) (by omega) (by omega) (by omega) (by omega) (by omega) (by omega) (by omega)
  · rcases (by omega : (w1 ≤ (-1099511627777)) ∨ (1099511627777 ≤ w1) ∨ ((-1099511627776) ≤ w1 ∧ w1 ≤ 1099511627776)) with hc1 | hc1 | hc1
    · exact leafPlanChecks_40 k b1 b2 b3 b4 w1 w2 w3 x h w (by omega) (by omega)
    · exact leafPlanChecks_41 k b1 b2 b3 b4 w1 w2 w3 x h w (by omega) (by omega)
    · rcases (by omega : (w2 ≤ (-1099511627777)) ∨ (1099511627777 ≤ w2) ∨ ((-1099511627776) ≤ w2 ∧ w2 ≤ 1099511627776)) with hc2 | hc2 | hc2
      · exact leafPlanChecks_42 k b1 b2 b3 b4 w1 w2 w3 x h w (by omega) (by omega) (by omega) (by omega)
      · exact leafPlanChecks_43 k b1 b2 b3 b4 w1 w2 w3 x h w (by omega) (by omega) (by omega) (by omega)
      · rcases (by omega : (w3 ≤ (-1099511627777)) ∨ (1099511627777 ≤ w3) ∨ ((-1099511627776) ≤ w3 ∧ w3 ≤ 1099511627776)) with hc3 | hc3 | hc3
        · exact leafPlanChecks_44 k b1 b2 b3 b4 w1 w2 w3 x h w (by omega) (by omega) (by omega) (by omega) (by omega) (by omega)
        · exact leafPlanChecks_45 k b1 b2 b3 b4 w1 w2 w3 x h w (by omega) (by omega) (by omega) (by omega) (by omega) (by omega)
        · rcases (by omega : (w1 < w2) ∨ (w2 = w1) ∨ (w2 < w1)) with hc4 | hc4 | hc4
          · exact leafPlanChecks_46 k b1 b2 b3 b4 w1 w2 w3 x h w (by omega) (by omega) (by omega) (by omega) (by omega) (by omega) (by omega) (by omega)
          · exact leafPlanChecks_47 k b1 b2 b3 b4 w1 w2 w3 x h w (by omega) (by omega) (by omega) (by omega) (by omega) (by omega) (by omega) (by omega)
          · exact leafPlanChecks_48 k b1 b2 b3 b4 w1 w2 w3 x h w (by omega) (by omega) (by omega) (by omega) (by omega) (by omega) (by omega) (by omega)
  · rcases (by omega : (x ≤ (-1099511627777)) ∨ (1099511627777 ≤ x) ∨ ((-1099511627776) ≤ x ∧ x ≤ 1099511627776)) with hc1 | hc1 | hc1
    · exact leafPlanChecks_49 k b1 b2 b3 b4 w1 w2 w3 x h w (by omega) (by omega)
    · exact leafPlanChecks_50 k b1 b2 b3 b4 w1 w2 w3 x h w (by omega) (by omega)
    · exact leafPlanChecks_51 k b1 b2 b3 b4 w1 w2 w3 x h w (by omega) (by omega) (by omega)
  · rcases (by omega : (x ≤ (-1099511627777)) ∨ (1099511627777 ≤ x) ∨ ((-1099511627776) ≤ x ∧ x ≤ 1099511627776)) with hc1 | hc1 | hc1
    · exact leafPlanChecks_52 k b1 b2 b3 b4 w1 w2 w3 x h w (by omega) (by omega)
    · exact leafPlanChecks_53 k b1 b2 b3 b4 w1 w2 w3 x h w (by omega) (by omega)
    · rcases (by omega : (h ≤ (-1099511627777)) ∨ (1099511627777 ≤ h) ∨ ((-1099511627776) ≤ h ∧ h ≤ 1099511627776)) with hc2 | hc2 | hc2
      · exact leafPlanChecks_54 k b1 b2 b3 b4 w1 w2 w3 x h w (by omega) (by omega) (by omega) (by omega)
      · exact leafPlanChecks_55 k b1 b2 b3 b4 w1 w2 w3 x h w (by omega) (by omega) (by omega) (by omega)
      · rcases (by omega : (x < h) ∨ (h = x) ∨ (h < x)) with hc3 | hc3 | hc3
        · exact leafPlanChecks_56 k b1 b2 b3 b4 w1 w2 w3 x h w (by omega) (by omega) (by omega) (by omega) (by omega) (by omega)
        · exact leafPlanChecks_57 k b1 b2 b3 b4 w1 w2 w3 x h w (by omega) (by omega) (by omega) (by omega) (by omega) (by omega)
        · exact leafPlanChecks_58 k b1 b2 b3 b4 w1 w2 w3 x h w (by omega) (by omega) (by omega) (by omega) (by omega) (by omega)
  · rcases (by omega : (x ≤ (-1099511627777)) ∨ (1099511627777 ≤ x) ∨ ((-1099511627776) ≤ x ∧ x ≤ 1099511627776)) with hc1 | hc1 | hc1
    · exact leafPlanChecks_59 k b1 b2 b3 b4 w1 w2 w3 x h w (by omega) (by omega)
    · exact leafPlanChecks_60 k b1 b2 b3 b4 w1 w2 w3 x h w (by omega) (by omega)
    · rcases (by omega : (h ≤ (-1099511627777)) ∨ (1099511627777 ≤ h) ∨ ((-1099511627776) ≤ h ∧ h ≤ 1099511627776)) with hc2 | hc2 | hc2
      · exact leafPlanChecks_61 k b1 b2 b3 b4 w1 w2 w3 x h w (by omega) (by omega) (by omega) (by omega)
      · exact leafPlanChecks_62 k b1 b2 b3 b4 w1 w2 w3 x h w (by omega) (by omega) (by omega) (by omega)
      · rcases (by omega : (x < h) ∨ (h = x) ∨ (h < x)) with hc3 | hc3 | hc3
        · exact leafPlanChecks_63 k b1 b2 b3 b4 w1 w2 w3 x h w (by omega) (by omega) (by omega) (by omega) (by omega) (by omega)
        · exact leafPlanChecks_64 k b1 b2 b3 b4 w1 w2 w3 x h w (by omega) (by omega) (by omega) (by omega) (by omega) (by omega)
        · exact leafPlanChecks_65 k b1 b2 b3 b4 w1 w2 w3 x h w (by omega) (by omega) (by omega) (by omega) (by omega) (by omega)
  · exact leafPlanChecks_66 k b1 b2 b3 b4 w1 w2 w3 x h w (by omega)
end Go.Proofs.Ytencgokpbfkeiaa
