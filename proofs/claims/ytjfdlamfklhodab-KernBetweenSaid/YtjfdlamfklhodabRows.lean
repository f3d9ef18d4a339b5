/-
  No cell of these rows narrows 'for every input' (looked for: loops, veiled, ifaces, maps, wideKeys, modest, calm, conditions, laid).
  DERIVED. THE GIVEN ROWS OF THIS SEAT. 6 by the template 'for every input the law returns true; each argument reads behind the call as it read before'; 0 by the template 'total and deterministic' (their statements: YtjfdlamfklhodabTotals.lean).
  GIVEN WITH THE SEED: the statements are not yours to turn. If you find one false, say at which input.
  Laid BY PROGRAM, IN A SANDBOX (cutbox-rows.mjs): the forced cells as the released guide's own fill.sh prints them over the translation 162f147c1731fd16… (all of the seat's roots in one cut). By AI agents, Wed Nov 11 2026. No macro, syntax, notation, axiom, sorry.
-/
import Derived.Test.YtjfdlamfklhodabChecked
import GoSem.Claim
import GoSem.ClaimJoined
import GoSem.ClaimMapViews
import Derived.JoinedTies
import Derived.KernelRfl
namespace Go.Proofs.Ytjfdlamfklhodab
/- THE CELL 'sum', in the pinned program and in every row, IS THE sha256 OF THE DUMP (.gsa) THAT YtjfdlamfklhodabProg.lean LOADS. Nothing in Lean hashes anything: it is a label: what it is worth is what the hold of that sum in a sandbox is worth. -/
noncomputable def Try.pinned : Pinned := { name := "ytjfdlamfklhodab", sum := "162f147c1731fd16133d562d73c1d5c1d7da571011dcf9aaf1e7c9f039e3dec9", checked := Try.checked }
namespace Rows
def none {H : Type} : Left H := { results := [], args := [] }

/-- 'alidadelaw03.KernAreas': WHATEVER THE INPUT: true; the input reads as it did. -/
def kernAreasSpec : ChangeSpec := { name := "kernAreas", fn := fun _ => fun
  | [d] => { results := [.lit (.bool true)], args := [d] }
  | _ => none }
def kernAreasRow : OpenClaim := { program := "ytjfdlamfklhodab", sum := "162f147c1731fd16133d562d73c1d5c1d7da571011dcf9aaf1e7c9f039e3dec9", func := "alidade/alidadelaw03.KernAreas", spec := "kernAreas", inPlace := ["math/bits.Sub64", "math/bits.Add64"], apart := false }
def KernAreasSaid : Prop := kernAreasRow.holds Try.pinned (OpenSpec.ofChange kernAreasSpec)

/-- ITS FALSE NEIGHBOUR: 'it returns false'. Refute it at one input. -/
def kernAreasWrong : ChangeSpec := { name := "kernAreas", fn := fun _ => fun
  | [d] => { results := [.lit (.bool false)], args := [d] }
  | _ => none }
def KernAreasWrongFalsely : Prop := kernAreasRow.holds Try.pinned (OpenSpec.ofChange kernAreasWrong)

/-- 'alidadelaw03.KernBetween': WHATEVER THE INPUT: true; the input reads as it did. -/
def kernBetweenSpec : ChangeSpec := { name := "kernBetween", fn := fun _ => fun
  | [d1, d2, d3] => { results := [.lit (.bool true)], args := [d1, d2, d3] }
  | _ => none }
def kernBetweenRow : OpenClaim := { program := "ytjfdlamfklhodab", sum := "162f147c1731fd16133d562d73c1d5c1d7da571011dcf9aaf1e7c9f039e3dec9", func := "alidade/alidadelaw03.KernBetween", spec := "kernBetween", apart := false }
def KernBetweenSaid : Prop := kernBetweenRow.holds Try.pinned (OpenSpec.ofChange kernBetweenSpec)

/-- ITS FALSE NEIGHBOUR: 'it returns false'. Refute it at one input. -/
def kernBetweenWrong : ChangeSpec := { name := "kernBetween", fn := fun _ => fun
  | [d1, d2, d3] => { results := [.lit (.bool false)], args := [d1, d2, d3] }
  | _ => none }
def KernBetweenWrongFalsely : Prop := kernBetweenRow.holds Try.pinned (OpenSpec.ofChange kernBetweenWrong)

/-- 'alidadelaw04.BoxChecks': WHATEVER THE INPUT: true; the input reads as it did. -/
def boxChecksSpec : ChangeSpec := { name := "boxChecks", fn := fun _ => fun
  | [d1, d2, d3] => { results := [.lit (.bool true)], args := [d1, d2, d3] }
  | _ => none }
def boxChecksRow : OpenClaim := { program := "ytjfdlamfklhodab", sum := "162f147c1731fd16133d562d73c1d5c1d7da571011dcf9aaf1e7c9f039e3dec9", func := "alidade/alidadelaw04.BoxChecks", spec := "boxChecks", apart := false }
def BoxChecksSaid : Prop := boxChecksRow.holds Try.pinned (OpenSpec.ofChange boxChecksSpec)

/-- ITS FALSE NEIGHBOUR: 'it returns false'. Refute it at one input. -/
def boxChecksWrong : ChangeSpec := { name := "boxChecks", fn := fun _ => fun
  | [d1, d2, d3] => { results := [.lit (.bool false)], args := [d1, d2, d3] }
  | _ => none }
def BoxChecksWrongFalsely : Prop := boxChecksRow.holds Try.pinned (OpenSpec.ofChange boxChecksWrong)

/-- 'alidadelaw04.BoxMeets': WHATEVER THE INPUT: true; the input reads as it did. -/
def boxMeetsSpec : ChangeSpec := { name := "boxMeets", fn := fun _ => fun
  | [d1, d2, d3] => { results := [.lit (.bool true)], args := [d1, d2, d3] }
  | _ => none }
def boxMeetsRow : OpenClaim := { program := "ytjfdlamfklhodab", sum := "162f147c1731fd16133d562d73c1d5c1d7da571011dcf9aaf1e7c9f039e3dec9", func := "alidade/alidadelaw04.BoxMeets", spec := "boxMeets", apart := false }
def BoxMeetsSaid : Prop := boxMeetsRow.holds Try.pinned (OpenSpec.ofChange boxMeetsSpec)

/-- ITS FALSE NEIGHBOUR: 'it returns false'. Refute it at one input. -/
def boxMeetsWrong : ChangeSpec := { name := "boxMeets", fn := fun _ => fun
  | [d1, d2, d3] => { results := [.lit (.bool false)], args := [d1, d2, d3] }
  | _ => none }
def BoxMeetsWrongFalsely : Prop := boxMeetsRow.holds Try.pinned (OpenSpec.ofChange boxMeetsWrong)

/-- 'alidadelaw04.BoxAround': WHATEVER THE INPUT: true; the input reads as it did. -/
def boxAroundSpec : ChangeSpec := { name := "boxAround", fn := fun _ => fun
  | [d] => { results := [.lit (.bool true)], args := [d] }
  | _ => none }
def boxAroundRow : OpenClaim := { program := "ytjfdlamfklhodab", sum := "162f147c1731fd16133d562d73c1d5c1d7da571011dcf9aaf1e7c9f039e3dec9", func := "alidade/alidadelaw04.BoxAround", spec := "boxAround", apart := false }
def BoxAroundSaid : Prop := boxAroundRow.holds Try.pinned (OpenSpec.ofChange boxAroundSpec)

/-- ITS FALSE NEIGHBOUR: 'it returns false'. Refute it at one input. -/
def boxAroundWrong : ChangeSpec := { name := "boxAround", fn := fun _ => fun
  | [d] => { results := [.lit (.bool false)], args := [d] }
  | _ => none }
def BoxAroundWrongFalsely : Prop := boxAroundRow.holds Try.pinned (OpenSpec.ofChange boxAroundWrong)

/-- 'alidadelaw04.BoxSpans': WHATEVER THE INPUT: true; the input reads as it did. -/
def boxSpansSpec : ChangeSpec := { name := "boxSpans", fn := fun _ => fun
  | [d1, d2, d3] => { results := [.lit (.bool true)], args := [d1, d2, d3] }
  | _ => none }
def boxSpansRow : OpenClaim := { program := "ytjfdlamfklhodab", sum := "162f147c1731fd16133d562d73c1d5c1d7da571011dcf9aaf1e7c9f039e3dec9", func := "alidade/alidadelaw04.BoxSpans", spec := "boxSpans", apart := false }
def BoxSpansSaid : Prop := boxSpansRow.holds Try.pinned (OpenSpec.ofChange boxSpansSpec)

/-- ITS FALSE NEIGHBOUR: 'it returns false'. Refute it at one input. -/
def boxSpansWrong : ChangeSpec := { name := "boxSpans", fn := fun _ => fun
  | [d1, d2, d3] => { results := [.lit (.bool false)], args := [d1, d2, d3] }
  | _ => none }
def BoxSpansWrongFalsely : Prop := boxSpansRow.holds Try.pinned (OpenSpec.ofChange boxSpansWrong)

/- THE SECOND FORM. 'bulk': how many values and letters a reading holds, each counted each time it is reached (what is shared counts as often as it is met; a slice's spare places count too). A statement '..UptoSaid' is the law's where the arguments, and the package variables that the reading takes, are together of bulk at most 1048576: NARROWER than '..Said'. Prove '..Said' where nothing that the law and all that it calls make is longer than what came in: it says more and counts as full. Else prove '..UptoSaid'. A law counts once. -/
mutual
def uptoBulk {H : Type} : DataW H → Nat
  | .lit (.string bytes) => bytes.length + 1
  | .lit _ => 1
  | .nil => 1
  | .ptr d => uptoBulk d + 1
  | .slice elems spare => uptoBulkAll elems + uptoBulkAll spare + 1
  | .agg parts => uptoBulkAll parts + 1
  | .iface _ d => uptoBulk d + 1
  | .map entries => uptoBulkEntries entries + 1
  | .held _ => 1
def uptoBulkAll {H : Type} : List (DataW H) → Nat
  | [] => 0
  | d :: r => uptoBulk d + uptoBulkAll r
def uptoBulkEntries {H : Type} : List (Lit × DataW H) → Nat
  | [] => 0
  | x :: r => uptoBulkEntry x + uptoBulkEntries r
def uptoBulkEntry {H : Type} : Lit × DataW H → Nat
  | (.string bytes, d) => bytes.length + uptoBulk d + 1
  | (_, d) => uptoBulk d + 1
 end
def uptoSmall : (H : Type) → List (DataW H) → Bool := fun _ ds => decide (uptoBulkAll ds ≤ 1048576)
def OpenSpec.upto (s : _root_.Go.ChangeSpec) : _root_.Go.OpenSpec := { _root_.Go.OpenSpec.ofChange s with cond := some uptoSmall }

/-- 'alidadelaw03.KernAreas', WHERE WHAT IT READS IS OF BULK AT MOST 1048576: true; the input reads as it did. -/
def kernAreasUptoRow : OpenClaim := { program := "ytjfdlamfklhodab", sum := "162f147c1731fd16133d562d73c1d5c1d7da571011dcf9aaf1e7c9f039e3dec9", func := "alidade/alidadelaw03.KernAreas", spec := "kernAreas", inPlace := ["math/bits.Sub64", "math/bits.Add64"], apart := false, narrowed := true }
def KernAreasUptoSaid : Prop := kernAreasUptoRow.holds Try.pinned (OpenSpec.upto kernAreasSpec)

/-- 'alidadelaw03.KernBetween', WHERE WHAT IT READS IS OF BULK AT MOST 1048576: true; the input reads as it did. -/
def kernBetweenUptoRow : OpenClaim := { program := "ytjfdlamfklhodab", sum := "162f147c1731fd16133d562d73c1d5c1d7da571011dcf9aaf1e7c9f039e3dec9", func := "alidade/alidadelaw03.KernBetween", spec := "kernBetween", apart := false, narrowed := true }
def KernBetweenUptoSaid : Prop := kernBetweenUptoRow.holds Try.pinned (OpenSpec.upto kernBetweenSpec)

/-- 'alidadelaw04.BoxChecks', WHERE WHAT IT READS IS OF BULK AT MOST 1048576: true; the input reads as it did. -/
def boxChecksUptoRow : OpenClaim := { program := "ytjfdlamfklhodab", sum := "162f147c1731fd16133d562d73c1d5c1d7da571011dcf9aaf1e7c9f039e3dec9", func := "alidade/alidadelaw04.BoxChecks", spec := "boxChecks", apart := false, narrowed := true }
def BoxChecksUptoSaid : Prop := boxChecksUptoRow.holds Try.pinned (OpenSpec.upto boxChecksSpec)

/-- 'alidadelaw04.BoxMeets', WHERE WHAT IT READS IS OF BULK AT MOST 1048576: true; the input reads as it did. -/
def boxMeetsUptoRow : OpenClaim := { program := "ytjfdlamfklhodab", sum := "162f147c1731fd16133d562d73c1d5c1d7da571011dcf9aaf1e7c9f039e3dec9", func := "alidade/alidadelaw04.BoxMeets", spec := "boxMeets", apart := false, narrowed := true }
def BoxMeetsUptoSaid : Prop := boxMeetsUptoRow.holds Try.pinned (OpenSpec.upto boxMeetsSpec)

/-- 'alidadelaw04.BoxAround', WHERE WHAT IT READS IS OF BULK AT MOST 1048576: true; the input reads as it did. -/
def boxAroundUptoRow : OpenClaim := { program := "ytjfdlamfklhodab", sum := "162f147c1731fd16133d562d73c1d5c1d7da571011dcf9aaf1e7c9f039e3dec9", func := "alidade/alidadelaw04.BoxAround", spec := "boxAround", apart := false, narrowed := true }
def BoxAroundUptoSaid : Prop := boxAroundUptoRow.holds Try.pinned (OpenSpec.upto boxAroundSpec)

/-- 'alidadelaw04.BoxSpans', WHERE WHAT IT READS IS OF BULK AT MOST 1048576: true; the input reads as it did. -/
def boxSpansUptoRow : OpenClaim := { program := "ytjfdlamfklhodab", sum := "162f147c1731fd16133d562d73c1d5c1d7da571011dcf9aaf1e7c9f039e3dec9", func := "alidade/alidadelaw04.BoxSpans", spec := "boxSpans", apart := false, narrowed := true }
def BoxSpansUptoSaid : Prop := boxSpansUptoRow.holds Try.pinned (OpenSpec.upto boxSpansSpec)

end Rows
end Go.Proofs.Ytjfdlamfklhodab
