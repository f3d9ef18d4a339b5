/-
  No cell of these rows narrows 'for every input' (looked for: loops, veiled, ifaces, maps, wideKeys, modest, calm, conditions, laid).
  DERIVED. THE GIVEN ROWS OF THIS SEAT. 10 by the template 'for every input the law returns true; each argument reads behind the call as it read before'; 0 by the template 'total and deterministic' (their statements: YtencgokpbfkeiaaTotals.lean).
  GIVEN WITH THE SEED: the statements are not yours to turn. If you find one false, say at which input.
  Laid BY PROGRAM, IN A SANDBOX (cutbox-rows.mjs): the forced cells as the released guide's own fill.sh prints them over the translation 2da183ca94aa2ce6… (all of the seat's roots in one cut). By AI agents, Wed Nov 11 2026. No macro, syntax, notation, axiom, sorry.
-/
import Derived.Test.YtencgokpbfkeiaaChecked
import GoSem.Claim
import GoSem.ClaimJoined
import GoSem.ClaimMapViews
import Derived.JoinedTies
import Derived.KernelRfl
namespace Go.Proofs.Ytencgokpbfkeiaa
/- THE CELL 'sum', in the pinned program and in every row, IS THE sha256 OF THE DUMP (.gsa) THAT YtencgokpbfkeiaaProg.lean LOADS. Nothing in Lean hashes anything: it is a label: what it is worth is what the hold of that sum in a sandbox is worth. -/
noncomputable def Try.pinned : Pinned := { name := "ytencgokpbfkeiaa", sum := "2da183ca94aa2ce6f871ea9378b5cd060585e0266ab82176555992561dc7d65e", checked := Try.checked }
namespace Rows
def none {H : Type} : Left H := { results := [], args := [] }

/-- 'alidadelaw25.PlanChecks': WHATEVER THE INPUT: true; the input reads as it did. -/
def planChecksSpec : ChangeSpec := { name := "planChecks", fn := fun _ => fun
  | [d] => { results := [.lit (.bool true)], args := [d] }
  | _ => none }
def planChecksRow : OpenClaim := { program := "ytencgokpbfkeiaa", sum := "2da183ca94aa2ce6f871ea9378b5cd060585e0266ab82176555992561dc7d65e", func := "alidade/alidadelaw25.PlanChecks", spec := "planChecks", recurses := true, apart := false }
def PlanChecksSaid : Prop := planChecksRow.holds Try.pinned (OpenSpec.ofChange planChecksSpec)

/-- ITS FALSE NEIGHBOUR: 'it returns false'. Refute it at one input. -/
def planChecksWrong : ChangeSpec := { name := "planChecks", fn := fun _ => fun
  | [d] => { results := [.lit (.bool false)], args := [d] }
  | _ => none }
def PlanChecksWrongFalsely : Prop := planChecksRow.holds Try.pinned (OpenSpec.ofChange planChecksWrong)

/-- 'alidadelaw25.PlanAnswers': WHATEVER THE INPUT: true; the input reads as it did. -/
def planAnswersSpec : ChangeSpec := { name := "planAnswers", fn := fun _ => fun
  | [d1, d2, d3] => { results := [.lit (.bool true)], args := [d1, d2, d3] }
  | _ => none }
def planAnswersRow : OpenClaim := { program := "ytencgokpbfkeiaa", sum := "2da183ca94aa2ce6f871ea9378b5cd060585e0266ab82176555992561dc7d65e", func := "alidade/alidadelaw25.PlanAnswers", spec := "planAnswers", recurses := true, apart := false }
def PlanAnswersSaid : Prop := planAnswersRow.holds Try.pinned (OpenSpec.ofChange planAnswersSpec)

/-- ITS FALSE NEIGHBOUR: 'it returns false'. Refute it at one input. -/
def planAnswersWrong : ChangeSpec := { name := "planAnswers", fn := fun _ => fun
  | [d1, d2, d3] => { results := [.lit (.bool false)], args := [d1, d2, d3] }
  | _ => none }
def PlanAnswersWrongFalsely : Prop := planAnswersRow.holds Try.pinned (OpenSpec.ofChange planAnswersWrong)

/-- 'alidadelaw25.PlanOnly': WHATEVER THE INPUT: true; the input reads as it did. -/
def planOnlySpec : ChangeSpec := { name := "planOnly", fn := fun _ => fun
  | [d1, d2, d3] => { results := [.lit (.bool true)], args := [d1, d2, d3] }
  | _ => none }
def planOnlyRow : OpenClaim := { program := "ytencgokpbfkeiaa", sum := "2da183ca94aa2ce6f871ea9378b5cd060585e0266ab82176555992561dc7d65e", func := "alidade/alidadelaw25.PlanOnly", spec := "planOnly", recurses := true, apart := false }
def PlanOnlySaid : Prop := planOnlyRow.holds Try.pinned (OpenSpec.ofChange planOnlySpec)

/-- ITS FALSE NEIGHBOUR: 'it returns false'. Refute it at one input. -/
def planOnlyWrong : ChangeSpec := { name := "planOnly", fn := fun _ => fun
  | [d1, d2, d3] => { results := [.lit (.bool false)], args := [d1, d2, d3] }
  | _ => none }
def PlanOnlyWrongFalsely : Prop := planOnlyRow.holds Try.pinned (OpenSpec.ofChange planOnlyWrong)

/-- 'alidadelaw29.CodecWrites': WHATEVER THE INPUT: true; the input reads as it did. -/
def codecWritesSpec : ChangeSpec := { name := "codecWrites", fn := fun _ => fun
  | [d1, d2] => { results := [.lit (.bool true)], args := [d1, d2] }
  | _ => none }
def codecWritesRow : OpenClaim := { program := "ytencgokpbfkeiaa", sum := "2da183ca94aa2ce6f871ea9378b5cd060585e0266ab82176555992561dc7d65e", func := "alidade/alidadelaw29.CodecWrites", spec := "codecWrites", apart := false }
def CodecWritesSaid : Prop := codecWritesRow.holds Try.pinned (OpenSpec.ofChange codecWritesSpec)

/-- ITS FALSE NEIGHBOUR: 'it returns false'. Refute it at one input. -/
def codecWritesWrong : ChangeSpec := { name := "codecWrites", fn := fun _ => fun
  | [d1, d2] => { results := [.lit (.bool false)], args := [d1, d2] }
  | _ => none }
def CodecWritesWrongFalsely : Prop := codecWritesRow.holds Try.pinned (OpenSpec.ofChange codecWritesWrong)

/-- 'alidadelaw29.CodecReads': WHATEVER THE INPUT: true; the input reads as it did. -/
def codecReadsSpec : ChangeSpec := { name := "codecReads", fn := fun _ => fun
  | [d1, d2] => { results := [.lit (.bool true)], args := [d1, d2] }
  | _ => none }
def codecReadsRow : OpenClaim := { program := "ytencgokpbfkeiaa", sum := "2da183ca94aa2ce6f871ea9378b5cd060585e0266ab82176555992561dc7d65e", func := "alidade/alidadelaw29.CodecReads", spec := "codecReads", apart := false }
def CodecReadsSaid : Prop := codecReadsRow.holds Try.pinned (OpenSpec.ofChange codecReadsSpec)

/-- ITS FALSE NEIGHBOUR: 'it returns false'. Refute it at one input. -/
def codecReadsWrong : ChangeSpec := { name := "codecReads", fn := fun _ => fun
  | [d1, d2] => { results := [.lit (.bool false)], args := [d1, d2] }
  | _ => none }
def CodecReadsWrongFalsely : Prop := codecReadsRow.holds Try.pinned (OpenSpec.ofChange codecReadsWrong)

/-- 'alidadelaw29.CodecNumbers': WHATEVER THE INPUT: true; the input reads as it did. -/
def codecNumbersSpec : ChangeSpec := { name := "codecNumbers", fn := fun _ => fun
  | [d1, d2] => { results := [.lit (.bool true)], args := [d1, d2] }
  | _ => none }
def codecNumbersRow : OpenClaim := { program := "ytencgokpbfkeiaa", sum := "2da183ca94aa2ce6f871ea9378b5cd060585e0266ab82176555992561dc7d65e", func := "alidade/alidadelaw29.CodecNumbers", spec := "codecNumbers", apart := false }
def CodecNumbersSaid : Prop := codecNumbersRow.holds Try.pinned (OpenSpec.ofChange codecNumbersSpec)

/-- ITS FALSE NEIGHBOUR: 'it returns false'. Refute it at one input. -/
def codecNumbersWrong : ChangeSpec := { name := "codecNumbers", fn := fun _ => fun
  | [d1, d2] => { results := [.lit (.bool false)], args := [d1, d2] }
  | _ => none }
def CodecNumbersWrongFalsely : Prop := codecNumbersRow.holds Try.pinned (OpenSpec.ofChange codecNumbersWrong)

/-- 'alidadelaw29.CodecApart': WHATEVER THE INPUT: true; the input reads as it did. -/
def codecApartSpec : ChangeSpec := { name := "codecApart", fn := fun _ => fun
  | [d1, d2] => { results := [.lit (.bool true)], args := [d1, d2] }
  | _ => none }
def codecApartRow : OpenClaim := { program := "ytencgokpbfkeiaa", sum := "2da183ca94aa2ce6f871ea9378b5cd060585e0266ab82176555992561dc7d65e", func := "alidade/alidadelaw29.CodecApart", spec := "codecApart", apart := false }
def CodecApartSaid : Prop := codecApartRow.holds Try.pinned (OpenSpec.ofChange codecApartSpec)

/-- ITS FALSE NEIGHBOUR: 'it returns false'. Refute it at one input. -/
def codecApartWrong : ChangeSpec := { name := "codecApart", fn := fun _ => fun
  | [d1, d2] => { results := [.lit (.bool false)], args := [d1, d2] }
  | _ => none }
def CodecApartWrongFalsely : Prop := codecApartRow.holds Try.pinned (OpenSpec.ofChange codecApartWrong)

/-- 'alidadelaw32.SessionPlays': WHATEVER THE INPUT: true; the input reads as it did. -/
def sessionPlaysSpec : ChangeSpec := { name := "sessionPlays", fn := fun _ => fun
  | [d1, d2] => { results := [.lit (.bool true)], args := [d1, d2] }
  | _ => none }
def sessionPlaysRow : OpenClaim := { program := "ytencgokpbfkeiaa", sum := "2da183ca94aa2ce6f871ea9378b5cd060585e0266ab82176555992561dc7d65e", func := "alidade/alidadelaw32.SessionPlays", spec := "sessionPlays", unfollowed := true, recurses := true, apart := false }
def SessionPlaysSaid : Prop := sessionPlaysRow.holds Try.pinned (OpenSpec.ofChange sessionPlaysSpec)

/-- ITS FALSE NEIGHBOUR: 'it returns false'. Refute it at one input. -/
def sessionPlaysWrong : ChangeSpec := { name := "sessionPlays", fn := fun _ => fun
  | [d1, d2] => { results := [.lit (.bool false)], args := [d1, d2] }
  | _ => none }
def SessionPlaysWrongFalsely : Prop := sessionPlaysRow.holds Try.pinned (OpenSpec.ofChange sessionPlaysWrong)

/-- 'alidadelaw32.SessionMoves': WHATEVER THE INPUT: true; the input reads as it did. -/
def sessionMovesSpec : ChangeSpec := { name := "sessionMoves", fn := fun _ => fun
  | [d] => { results := [.lit (.bool true)], args := [d] }
  | _ => none }
def sessionMovesRow : OpenClaim := { program := "ytencgokpbfkeiaa", sum := "2da183ca94aa2ce6f871ea9378b5cd060585e0266ab82176555992561dc7d65e", func := "alidade/alidadelaw32.SessionMoves", spec := "sessionMoves", unfollowed := true, recurses := true, apart := false }
def SessionMovesSaid : Prop := sessionMovesRow.holds Try.pinned (OpenSpec.ofChange sessionMovesSpec)

/-- ITS FALSE NEIGHBOUR: 'it returns false'. Refute it at one input. -/
def sessionMovesWrong : ChangeSpec := { name := "sessionMoves", fn := fun _ => fun
  | [d] => { results := [.lit (.bool false)], args := [d] }
  | _ => none }
def SessionMovesWrongFalsely : Prop := sessionMovesRow.holds Try.pinned (OpenSpec.ofChange sessionMovesWrong)

/-- 'alidadelaw32.SessionBudget': WHATEVER THE INPUT: true; the input reads as it did. -/
def sessionBudgetSpec : ChangeSpec := { name := "sessionBudget", fn := fun _ => fun
  | [d1, d2] => { results := [.lit (.bool true)], args := [d1, d2] }
  | _ => none }
def sessionBudgetRow : OpenClaim := { program := "ytencgokpbfkeiaa", sum := "2da183ca94aa2ce6f871ea9378b5cd060585e0266ab82176555992561dc7d65e", func := "alidade/alidadelaw32.SessionBudget", spec := "sessionBudget", unfollowed := true, recurses := true, apart := false }
def SessionBudgetSaid : Prop := sessionBudgetRow.holds Try.pinned (OpenSpec.ofChange sessionBudgetSpec)

/-- ITS FALSE NEIGHBOUR: 'it returns false'. Refute it at one input. -/
def sessionBudgetWrong : ChangeSpec := { name := "sessionBudget", fn := fun _ => fun
  | [d1, d2] => { results := [.lit (.bool false)], args := [d1, d2] }
  | _ => none }
def SessionBudgetWrongFalsely : Prop := sessionBudgetRow.holds Try.pinned (OpenSpec.ofChange sessionBudgetWrong)

/- THE SECOND FORM. 'bulk': how many values and letters a reading holds, each counted each time it is reached (what is shared counts as often as it is met; a slice's spare places count too). A statement '..UptoSaid' is the law's where the arguments, and the package variables that the reading takes, are together of bulk at most 1048576: NARROWER than '..Said'. Prove '..Said' where nothing that the law and all that it calls make is longer than what came in: it says more and counts as full. Else prove '..UptoSaid'. A law counts once. -/
mutual
def uptoBulk {H : Type} : DataW H → Nat
  | .lit (.string bytes) => bytes.length + 1
  | .lit _ => 1
  | .nil => 1
  | .ptr d => uptoBulk d + 1
  | .slice elems spare => uptoBulkAll elems + uptoBulkAll spare + 1
  | .agg parts => uptoBulkAll parts + 1
  | .iface _ d => uptoBulk d + 1
  | .map entries => uptoBulkEntries entries + 1
  | .held _ => 1
def uptoBulkAll {H : Type} : List (DataW H) → Nat
  | [] => 0
  | d :: r => uptoBulk d + uptoBulkAll r
def uptoBulkEntries {H : Type} : List (Lit × DataW H) → Nat
  | [] => 0
  | x :: r => uptoBulkEntry x + uptoBulkEntries r
def uptoBulkEntry {H : Type} : Lit × DataW H → Nat
  | (.string bytes, d) => bytes.length + uptoBulk d + 1
  | (_, d) => uptoBulk d + 1
 end
def uptoSmall : (H : Type) → List (DataW H) → Bool := fun _ ds => decide (uptoBulkAll ds ≤ 1048576)
def OpenSpec.upto (s : _root_.Go.ChangeSpec) : _root_.Go.OpenSpec := { _root_.Go.OpenSpec.ofChange s with cond := some uptoSmall }

/-- 'alidadelaw25.PlanChecks', WHERE WHAT IT READS IS OF BULK AT MOST 1048576: true; the input reads as it did. -/
def planChecksUptoRow : OpenClaim := { program := "ytencgokpbfkeiaa", sum := "2da183ca94aa2ce6f871ea9378b5cd060585e0266ab82176555992561dc7d65e", func := "alidade/alidadelaw25.PlanChecks", spec := "planChecks", recurses := true, apart := false, narrowed := true }
def PlanChecksUptoSaid : Prop := planChecksUptoRow.holds Try.pinned (OpenSpec.upto planChecksSpec)

/-- 'alidadelaw25.PlanAnswers', WHERE WHAT IT READS IS OF BULK AT MOST 1048576: true; the input reads as it did. -/
def planAnswersUptoRow : OpenClaim := { program := "ytencgokpbfkeiaa", sum := "2da183ca94aa2ce6f871ea9378b5cd060585e0266ab82176555992561dc7d65e", func := "alidade/alidadelaw25.PlanAnswers", spec := "planAnswers", recurses := true, apart := false, narrowed := true }
def PlanAnswersUptoSaid : Prop := planAnswersUptoRow.holds Try.pinned (OpenSpec.upto planAnswersSpec)

/-- 'alidadelaw25.PlanOnly', WHERE WHAT IT READS IS OF BULK AT MOST 1048576: true; the input reads as it did. -/
def planOnlyUptoRow : OpenClaim := { program := "ytencgokpbfkeiaa", sum := "2da183ca94aa2ce6f871ea9378b5cd060585e0266ab82176555992561dc7d65e", func := "alidade/alidadelaw25.PlanOnly", spec := "planOnly", recurses := true, apart := false, narrowed := true }
def PlanOnlyUptoSaid : Prop := planOnlyUptoRow.holds Try.pinned (OpenSpec.upto planOnlySpec)

/-- 'alidadelaw29.CodecWrites', WHERE WHAT IT READS IS OF BULK AT MOST 1048576: true; the input reads as it did. -/
def codecWritesUptoRow : OpenClaim := { program := "ytencgokpbfkeiaa", sum := "2da183ca94aa2ce6f871ea9378b5cd060585e0266ab82176555992561dc7d65e", func := "alidade/alidadelaw29.CodecWrites", spec := "codecWrites", apart := false, narrowed := true }
def CodecWritesUptoSaid : Prop := codecWritesUptoRow.holds Try.pinned (OpenSpec.upto codecWritesSpec)

/-- 'alidadelaw29.CodecReads', WHERE WHAT IT READS IS OF BULK AT MOST 1048576: true; the input reads as it did. -/
def codecReadsUptoRow : OpenClaim := { program := "ytencgokpbfkeiaa", sum := "2da183ca94aa2ce6f871ea9378b5cd060585e0266ab82176555992561dc7d65e", func := "alidade/alidadelaw29.CodecReads", spec := "codecReads", apart := false, narrowed := true }
def CodecReadsUptoSaid : Prop := codecReadsUptoRow.holds Try.pinned (OpenSpec.upto codecReadsSpec)

/-- 'alidadelaw29.CodecNumbers', WHERE WHAT IT READS IS OF BULK AT MOST 1048576: true; the input reads as it did. -/
def codecNumbersUptoRow : OpenClaim := { program := "ytencgokpbfkeiaa", sum := "2da183ca94aa2ce6f871ea9378b5cd060585e0266ab82176555992561dc7d65e", func := "alidade/alidadelaw29.CodecNumbers", spec := "codecNumbers", apart := false, narrowed := true }
def CodecNumbersUptoSaid : Prop := codecNumbersUptoRow.holds Try.pinned (OpenSpec.upto codecNumbersSpec)

/-- 'alidadelaw29.CodecApart', WHERE WHAT IT READS IS OF BULK AT MOST 1048576: true; the input reads as it did. -/
def codecApartUptoRow : OpenClaim := { program := "ytencgokpbfkeiaa", sum := "2da183ca94aa2ce6f871ea9378b5cd060585e0266ab82176555992561dc7d65e", func := "alidade/alidadelaw29.CodecApart", spec := "codecApart", apart := false, narrowed := true }
def CodecApartUptoSaid : Prop := codecApartUptoRow.holds Try.pinned (OpenSpec.upto codecApartSpec)

/-- 'alidadelaw32.SessionPlays', WHERE WHAT IT READS IS OF BULK AT MOST 1048576: true; the input reads as it did. -/
def sessionPlaysUptoRow : OpenClaim := { program := "ytencgokpbfkeiaa", sum := "2da183ca94aa2ce6f871ea9378b5cd060585e0266ab82176555992561dc7d65e", func := "alidade/alidadelaw32.SessionPlays", spec := "sessionPlays", unfollowed := true, recurses := true, apart := false, narrowed := true }
def SessionPlaysUptoSaid : Prop := sessionPlaysUptoRow.holds Try.pinned (OpenSpec.upto sessionPlaysSpec)

/-- 'alidadelaw32.SessionMoves', WHERE WHAT IT READS IS OF BULK AT MOST 1048576: true; the input reads as it did. -/
def sessionMovesUptoRow : OpenClaim := { program := "ytencgokpbfkeiaa", sum := "2da183ca94aa2ce6f871ea9378b5cd060585e0266ab82176555992561dc7d65e", func := "alidade/alidadelaw32.SessionMoves", spec := "sessionMoves", unfollowed := true, recurses := true, apart := false, narrowed := true }
def SessionMovesUptoSaid : Prop := sessionMovesUptoRow.holds Try.pinned (OpenSpec.upto sessionMovesSpec)

/-- 'alidadelaw32.SessionBudget', WHERE WHAT IT READS IS OF BULK AT MOST 1048576: true; the input reads as it did. -/
def sessionBudgetUptoRow : OpenClaim := { program := "ytencgokpbfkeiaa", sum := "2da183ca94aa2ce6f871ea9378b5cd060585e0266ab82176555992561dc7d65e", func := "alidade/alidadelaw32.SessionBudget", spec := "sessionBudget", unfollowed := true, recurses := true, apart := false, narrowed := true }
def SessionBudgetUptoSaid : Prop := sessionBudgetUptoRow.holds Try.pinned (OpenSpec.upto sessionBudgetSpec)

end Rows
end Go.Proofs.Ytencgokpbfkeiaa
