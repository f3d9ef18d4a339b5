/-
  No cell of these rows narrows 'for every input' (looked for: loops, veiled, ifaces, maps, wideKeys, modest, calm, conditions, laid).
  DERIVED. THE GIVEN ROWS OF THIS SEAT. 11 by the template 'for every input the law returns true; each argument reads behind the call as it read before'; 0 by the template 'total and deterministic' (their statements: YtmmmhkpekaimeaaTotals.lean).
  GIVEN WITH THE SEED: the statements are not yours to turn. If you find one false, say at which input.
  Laid BY PROGRAM, IN A SANDBOX (cutbox-rows.mjs): the forced cells as the released guide's own fill.sh prints them over the translation 12b1ed51e28945c1… (all of the seat's roots in one cut). By AI agents, Wed Nov 11 2026. No macro, syntax, notation, axiom, sorry.
-/
import Derived.Test.YtmmmhkpekaimeaaChecked
import GoSem.Claim
import GoSem.ClaimJoined
import GoSem.ClaimMapViews
import Derived.JoinedTies
import Derived.KernelRfl
namespace Go.Proofs.Ytmmmhkpekaimeaa
/- THE CELL 'sum', in the pinned program and in every row, IS THE sha256 OF THE DUMP (.gsa) THAT YtmmmhkpekaimeaaProg.lean LOADS. Nothing in Lean hashes anything: it is a label: what it is worth is what the hold of that sum in a sandbox is worth. -/
noncomputable def Try.pinned : Pinned := { name := "ytmmmhkpekaimeaa", sum := "12b1ed51e28945c17df4509c3296299b5aa127c880faeae8e31e9220a4d978b1", checked := Try.checked }
namespace Rows
def none {H : Type} : Left H := { results := [], args := [] }

/-- 'alidadelaw05.TrapCatches': WHATEVER THE INPUT: true; the input reads as it did. -/
def trapCatchesSpec : ChangeSpec := { name := "trapCatches", fn := fun _ => fun
  | [d] => { results := [.lit (.bool true)], args := [d] }
  | _ => none }
def trapCatchesRow : OpenClaim := { program := "ytmmmhkpekaimeaa", sum := "12b1ed51e28945c17df4509c3296299b5aa127c880faeae8e31e9220a4d978b1", func := "alidade/alidadelaw05.TrapCatches", spec := "trapCatches", unfollowed := true, recurses := true, apart := false }
def TrapCatchesSaid : Prop := trapCatchesRow.holds Try.pinned (OpenSpec.ofChange trapCatchesSpec)

/-- ITS FALSE NEIGHBOUR: 'it returns false'. Refute it at one input. -/
def trapCatchesWrong : ChangeSpec := { name := "trapCatches", fn := fun _ => fun
  | [d] => { results := [.lit (.bool false)], args := [d] }
  | _ => none }
def TrapCatchesWrongFalsely : Prop := trapCatchesRow.holds Try.pinned (OpenSpec.ofChange trapCatchesWrong)

/-- 'alidadelaw05.TrapCodes': WHATEVER THE INPUT: true; the input reads as it did. -/
def trapCodesSpec : ChangeSpec := { name := "trapCodes", fn := fun _ => fun
  | [d1, d2] => { results := [.lit (.bool true)], args := [d1, d2] }
  | _ => none }
def trapCodesRow : OpenClaim := { program := "ytmmmhkpekaimeaa", sum := "12b1ed51e28945c17df4509c3296299b5aa127c880faeae8e31e9220a4d978b1", func := "alidade/alidadelaw05.TrapCodes", spec := "trapCodes", unfollowed := true, recurses := true, apart := false }
def TrapCodesSaid : Prop := trapCodesRow.holds Try.pinned (OpenSpec.ofChange trapCodesSpec)

/-- ITS FALSE NEIGHBOUR: 'it returns false'. Refute it at one input. -/
def trapCodesWrong : ChangeSpec := { name := "trapCodes", fn := fun _ => fun
  | [d1, d2] => { results := [.lit (.bool false)], args := [d1, d2] }
  | _ => none }
def TrapCodesWrongFalsely : Prop := trapCodesRow.holds Try.pinned (OpenSpec.ofChange trapCodesWrong)

/-- 'alidadelaw05.TrapInner': WHATEVER THE INPUT: true; the input reads as it did. -/
def trapInnerSpec : ChangeSpec := { name := "trapInner", fn := fun _ => fun
  | [d] => { results := [.lit (.bool true)], args := [d] }
  | _ => none }
def trapInnerRow : OpenClaim := { program := "ytmmmhkpekaimeaa", sum := "12b1ed51e28945c17df4509c3296299b5aa127c880faeae8e31e9220a4d978b1", func := "alidade/alidadelaw05.TrapInner", spec := "trapInner", unfollowed := true, recurses := true, apart := false }
def TrapInnerSaid : Prop := trapInnerRow.holds Try.pinned (OpenSpec.ofChange trapInnerSpec)

/-- ITS FALSE NEIGHBOUR: 'it returns false'. Refute it at one input. -/
def trapInnerWrong : ChangeSpec := { name := "trapInner", fn := fun _ => fun
  | [d] => { results := [.lit (.bool false)], args := [d] }
  | _ => none }
def TrapInnerWrongFalsely : Prop := trapInnerRow.holds Try.pinned (OpenSpec.ofChange trapInnerWrong)

/-- 'alidadelaw05.TrapFirst': WHATEVER THE INPUT: true; the input reads as it did. -/
def trapFirstSpec : ChangeSpec := { name := "trapFirst", fn := fun _ => fun
  | [d1, d2, d3] => { results := [.lit (.bool true)], args := [d1, d2, d3] }
  | _ => none }
def trapFirstRow : OpenClaim := { program := "ytmmmhkpekaimeaa", sum := "12b1ed51e28945c17df4509c3296299b5aa127c880faeae8e31e9220a4d978b1", func := "alidade/alidadelaw05.TrapFirst", spec := "trapFirst", unfollowed := true, recurses := true, apart := false }
def TrapFirstSaid : Prop := trapFirstRow.holds Try.pinned (OpenSpec.ofChange trapFirstSpec)

/-- ITS FALSE NEIGHBOUR: 'it returns false'. Refute it at one input. -/
def trapFirstWrong : ChangeSpec := { name := "trapFirst", fn := fun _ => fun
  | [d1, d2, d3] => { results := [.lit (.bool false)], args := [d1, d2, d3] }
  | _ => none }
def TrapFirstWrongFalsely : Prop := trapFirstRow.holds Try.pinned (OpenSpec.ofChange trapFirstWrong)

/-- 'alidadelaw05.TrapMust': WHATEVER THE INPUT: true; the input reads as it did. -/
def trapMustSpec : ChangeSpec := { name := "trapMust", fn := fun _ => fun
  | [d1, d2, d3] => { results := [.lit (.bool true)], args := [d1, d2, d3] }
  | _ => none }
def trapMustRow : OpenClaim := { program := "ytmmmhkpekaimeaa", sum := "12b1ed51e28945c17df4509c3296299b5aa127c880faeae8e31e9220a4d978b1", func := "alidade/alidadelaw05.TrapMust", spec := "trapMust", unfollowed := true, recurses := true, apart := false }
def TrapMustSaid : Prop := trapMustRow.holds Try.pinned (OpenSpec.ofChange trapMustSpec)

/-- ITS FALSE NEIGHBOUR: 'it returns false'. Refute it at one input. -/
def trapMustWrong : ChangeSpec := { name := "trapMust", fn := fun _ => fun
  | [d1, d2, d3] => { results := [.lit (.bool false)], args := [d1, d2, d3] }
  | _ => none }
def TrapMustWrongFalsely : Prop := trapMustRow.holds Try.pinned (OpenSpec.ofChange trapMustWrong)

/-- 'alidadelaw06.PoolPlays': WHATEVER THE INPUT: true; the input reads as it did. -/
def poolPlaysSpec : ChangeSpec := { name := "poolPlays", fn := fun _ => fun
  | [d1, d2] => { results := [.lit (.bool true)], args := [d1, d2] }
  | _ => none }
def poolPlaysRow : OpenClaim := { program := "ytmmmhkpekaimeaa", sum := "12b1ed51e28945c17df4509c3296299b5aa127c880faeae8e31e9220a4d978b1", func := "alidade/alidadelaw06.PoolPlays", spec := "poolPlays", unfollowed := true, recurses := true, apart := false }
def PoolPlaysSaid : Prop := poolPlaysRow.holds Try.pinned (OpenSpec.ofChange poolPlaysSpec)

/-- ITS FALSE NEIGHBOUR: 'it returns false'. Refute it at one input. -/
def poolPlaysWrong : ChangeSpec := { name := "poolPlays", fn := fun _ => fun
  | [d1, d2] => { results := [.lit (.bool false)], args := [d1, d2] }
  | _ => none }
def PoolPlaysWrongFalsely : Prop := poolPlaysRow.holds Try.pinned (OpenSpec.ofChange poolPlaysWrong)

/-- 'alidadelaw06.PoolApart': WHATEVER THE INPUT: true; the input reads as it did. -/
def poolApartSpec : ChangeSpec := { name := "poolApart", fn := fun _ => fun
  | [d1, d2] => { results := [.lit (.bool true)], args := [d1, d2] }
  | _ => none }
def poolApartRow : OpenClaim := { program := "ytmmmhkpekaimeaa", sum := "12b1ed51e28945c17df4509c3296299b5aa127c880faeae8e31e9220a4d978b1", func := "alidade/alidadelaw06.PoolApart", spec := "poolApart", unfollowed := true, recurses := true, apart := false }
def PoolApartSaid : Prop := poolApartRow.holds Try.pinned (OpenSpec.ofChange poolApartSpec)

/-- ITS FALSE NEIGHBOUR: 'it returns false'. Refute it at one input. -/
def poolApartWrong : ChangeSpec := { name := "poolApart", fn := fun _ => fun
  | [d1, d2] => { results := [.lit (.bool false)], args := [d1, d2] }
  | _ => none }
def PoolApartWrongFalsely : Prop := poolApartRow.holds Try.pinned (OpenSpec.ofChange poolApartWrong)

/-- 'alidadelaw06.PoolNone': WHATEVER THE INPUT: true; the input reads as it did. -/
def poolNoneSpec : ChangeSpec := { name := "poolNone", fn := fun _ => fun
  | [d] => { results := [.lit (.bool true)], args := [d] }
  | _ => none }
def poolNoneRow : OpenClaim := { program := "ytmmmhkpekaimeaa", sum := "12b1ed51e28945c17df4509c3296299b5aa127c880faeae8e31e9220a4d978b1", func := "alidade/alidadelaw06.PoolNone", spec := "poolNone", unfollowed := true, recurses := true, apart := false }
def PoolNoneSaid : Prop := poolNoneRow.holds Try.pinned (OpenSpec.ofChange poolNoneSpec)

/-- ITS FALSE NEIGHBOUR: 'it returns false'. Refute it at one input. -/
def poolNoneWrong : ChangeSpec := { name := "poolNone", fn := fun _ => fun
  | [d] => { results := [.lit (.bool false)], args := [d] }
  | _ => none }
def PoolNoneWrongFalsely : Prop := poolNoneRow.holds Try.pinned (OpenSpec.ofChange poolNoneWrong)

/-- 'alidadelaw10.StackPlays': WHATEVER THE INPUT: true; the input reads as it did. -/
def stackPlaysSpec : ChangeSpec := { name := "stackPlays", fn := fun _ => fun
  | [d1, d2] => { results := [.lit (.bool true)], args := [d1, d2] }
  | _ => none }
def stackPlaysRow : OpenClaim := { program := "ytmmmhkpekaimeaa", sum := "12b1ed51e28945c17df4509c3296299b5aa127c880faeae8e31e9220a4d978b1", func := "alidade/alidadelaw10.StackPlays", spec := "stackPlays", apart := false }
def StackPlaysSaid : Prop := stackPlaysRow.holds Try.pinned (OpenSpec.ofChange stackPlaysSpec)

/-- ITS FALSE NEIGHBOUR: 'it returns false'. Refute it at one input. -/
def stackPlaysWrong : ChangeSpec := { name := "stackPlays", fn := fun _ => fun
  | [d1, d2] => { results := [.lit (.bool false)], args := [d1, d2] }
  | _ => none }
def StackPlaysWrongFalsely : Prop := stackPlaysRow.holds Try.pinned (OpenSpec.ofChange stackPlaysWrong)

/-- 'alidadelaw10.StackParts': WHATEVER THE INPUT: true; the input reads as it did. -/
def stackPartsSpec : ChangeSpec := { name := "stackParts", fn := fun _ => fun
  | [d1, d2, d3] => { results := [.lit (.bool true)], args := [d1, d2, d3] }
  | _ => none }
def stackPartsRow : OpenClaim := { program := "ytmmmhkpekaimeaa", sum := "12b1ed51e28945c17df4509c3296299b5aa127c880faeae8e31e9220a4d978b1", func := "alidade/alidadelaw10.StackParts", spec := "stackParts", unfollowed := true, recurses := true, apart := false }
def StackPartsSaid : Prop := stackPartsRow.holds Try.pinned (OpenSpec.ofChange stackPartsSpec)

/-- ITS FALSE NEIGHBOUR: 'it returns false'. Refute it at one input. -/
def stackPartsWrong : ChangeSpec := { name := "stackParts", fn := fun _ => fun
  | [d1, d2, d3] => { results := [.lit (.bool false)], args := [d1, d2, d3] }
  | _ => none }
def StackPartsWrongFalsely : Prop := stackPartsRow.holds Try.pinned (OpenSpec.ofChange stackPartsWrong)

/-- 'alidadelaw10.StackNone': WHATEVER THE INPUT: true; the input reads as it did. -/
def stackNoneSpec : ChangeSpec := { name := "stackNone", fn := fun _ => fun
  | [d1, d2] => { results := [.lit (.bool true)], args := [d1, d2] }
  | _ => none }
def stackNoneRow : OpenClaim := { program := "ytmmmhkpekaimeaa", sum := "12b1ed51e28945c17df4509c3296299b5aa127c880faeae8e31e9220a4d978b1", func := "alidade/alidadelaw10.StackNone", spec := "stackNone", unfollowed := true, recurses := true, apart := false }
def StackNoneSaid : Prop := stackNoneRow.holds Try.pinned (OpenSpec.ofChange stackNoneSpec)

/-- ITS FALSE NEIGHBOUR: 'it returns false'. Refute it at one input. -/
def stackNoneWrong : ChangeSpec := { name := "stackNone", fn := fun _ => fun
  | [d1, d2] => { results := [.lit (.bool false)], args := [d1, d2] }
  | _ => none }
def StackNoneWrongFalsely : Prop := stackNoneRow.holds Try.pinned (OpenSpec.ofChange stackNoneWrong)

/- THE SECOND FORM. 'bulk': how many values and letters a reading holds, each counted each time it is reached (what is shared counts as often as it is met; a slice's spare places count too). A statement '..UptoSaid' is the law's where the arguments, and the package variables that the reading takes, are together of bulk at most 1048576: NARROWER than '..Said'. Prove '..Said' where nothing that the law and all that it calls make is longer than what came in: it says more and counts as full. Else prove '..UptoSaid'. A law counts once. -/
mutual
def uptoBulk {H : Type} : DataW H → Nat
  | .lit (.string bytes) => bytes.length + 1
  | .lit _ => 1
  | .nil => 1
  | .ptr d => uptoBulk d + 1
  | .slice elems spare => uptoBulkAll elems + uptoBulkAll spare + 1
  | .agg parts => uptoBulkAll parts + 1
  | .iface _ d => uptoBulk d + 1
  | .map entries => uptoBulkEntries entries + 1
  | .held _ => 1
def uptoBulkAll {H : Type} : List (DataW H) → Nat
  | [] => 0
  | d :: r => uptoBulk d + uptoBulkAll r
def uptoBulkEntries {H : Type} : List (Lit × DataW H) → Nat
  | [] => 0
  | x :: r => uptoBulkEntry x + uptoBulkEntries r
def uptoBulkEntry {H : Type} : Lit × DataW H → Nat
  | (.string bytes, d) => bytes.length + uptoBulk d + 1
  | (_, d) => uptoBulk d + 1
 end
def uptoSmall : (H : Type) → List (DataW H) → Bool := fun _ ds => decide (uptoBulkAll ds ≤ 1048576)
def OpenSpec.upto (s : _root_.Go.ChangeSpec) : _root_.Go.OpenSpec := { _root_.Go.OpenSpec.ofChange s with cond := some uptoSmall }

/-- 'alidadelaw05.TrapCatches', WHERE WHAT IT READS IS OF BULK AT MOST 1048576: true; the input reads as it did. -/
def trapCatchesUptoRow : OpenClaim := { program := "ytmmmhkpekaimeaa", sum := "12b1ed51e28945c17df4509c3296299b5aa127c880faeae8e31e9220a4d978b1", func := "alidade/alidadelaw05.TrapCatches", spec := "trapCatches", unfollowed := true, recurses := true, apart := false, narrowed := true }
def TrapCatchesUptoSaid : Prop := trapCatchesUptoRow.holds Try.pinned (OpenSpec.upto trapCatchesSpec)

/-- 'alidadelaw05.TrapCodes', WHERE WHAT IT READS IS OF BULK AT MOST 1048576: true; the input reads as it did. -/
def trapCodesUptoRow : OpenClaim := { program := "ytmmmhkpekaimeaa", sum := "12b1ed51e28945c17df4509c3296299b5aa127c880faeae8e31e9220a4d978b1", func := "alidade/alidadelaw05.TrapCodes", spec := "trapCodes", unfollowed := true, recurses := true, apart := false, narrowed := true }
def TrapCodesUptoSaid : Prop := trapCodesUptoRow.holds Try.pinned (OpenSpec.upto trapCodesSpec)

/-- 'alidadelaw05.TrapInner', WHERE WHAT IT READS IS OF BULK AT MOST 1048576: true; the input reads as it did. -/
def trapInnerUptoRow : OpenClaim := { program := "ytmmmhkpekaimeaa", sum := "12b1ed51e28945c17df4509c3296299b5aa127c880faeae8e31e9220a4d978b1", func := "alidade/alidadelaw05.TrapInner", spec := "trapInner", unfollowed := true, recurses := true, apart := false, narrowed := true }
def TrapInnerUptoSaid : Prop := trapInnerUptoRow.holds Try.pinned (OpenSpec.upto trapInnerSpec)

/-- 'alidadelaw05.TrapFirst', WHERE WHAT IT READS IS OF BULK AT MOST 1048576: true; the input reads as it did. -/
def trapFirstUptoRow : OpenClaim := { program := "ytmmmhkpekaimeaa", sum := "12b1ed51e28945c17df4509c3296299b5aa127c880faeae8e31e9220a4d978b1", func := "alidade/alidadelaw05.TrapFirst", spec := "trapFirst", unfollowed := true, recurses := true, apart := false, narrowed := true }
def TrapFirstUptoSaid : Prop := trapFirstUptoRow.holds Try.pinned (OpenSpec.upto trapFirstSpec)

/-- 'alidadelaw05.TrapMust', WHERE WHAT IT READS IS OF BULK AT MOST 1048576: true; the input reads as it did. -/
def trapMustUptoRow : OpenClaim := { program := "ytmmmhkpekaimeaa", sum := "12b1ed51e28945c17df4509c3296299b5aa127c880faeae8e31e9220a4d978b1", func := "alidade/alidadelaw05.TrapMust", spec := "trapMust", unfollowed := true, recurses := true, apart := false, narrowed := true }
def TrapMustUptoSaid : Prop := trapMustUptoRow.holds Try.pinned (OpenSpec.upto trapMustSpec)

/-- 'alidadelaw06.PoolPlays', WHERE WHAT IT READS IS OF BULK AT MOST 1048576: true; the input reads as it did. -/
def poolPlaysUptoRow : OpenClaim := { program := "ytmmmhkpekaimeaa", sum := "12b1ed51e28945c17df4509c3296299b5aa127c880faeae8e31e9220a4d978b1", func := "alidade/alidadelaw06.PoolPlays", spec := "poolPlays", unfollowed := true, recurses := true, apart := false, narrowed := true }
def PoolPlaysUptoSaid : Prop := poolPlaysUptoRow.holds Try.pinned (OpenSpec.upto poolPlaysSpec)

/-- 'alidadelaw06.PoolApart', WHERE WHAT IT READS IS OF BULK AT MOST 1048576: true; the input reads as it did. -/
def poolApartUptoRow : OpenClaim := { program := "ytmmmhkpekaimeaa", sum := "12b1ed51e28945c17df4509c3296299b5aa127c880faeae8e31e9220a4d978b1", func := "alidade/alidadelaw06.PoolApart", spec := "poolApart", unfollowed := true, recurses := true, apart := false, narrowed := true }
def PoolApartUptoSaid : Prop := poolApartUptoRow.holds Try.pinned (OpenSpec.upto poolApartSpec)

/-- 'alidadelaw06.PoolNone', WHERE WHAT IT READS IS OF BULK AT MOST 1048576: true; the input reads as it did. -/
def poolNoneUptoRow : OpenClaim := { program := "ytmmmhkpekaimeaa", sum := "12b1ed51e28945c17df4509c3296299b5aa127c880faeae8e31e9220a4d978b1", func := "alidade/alidadelaw06.PoolNone", spec := "poolNone", unfollowed := true, recurses := true, apart := false, narrowed := true }
def PoolNoneUptoSaid : Prop := poolNoneUptoRow.holds Try.pinned (OpenSpec.upto poolNoneSpec)

/-- 'alidadelaw10.StackPlays', WHERE WHAT IT READS IS OF BULK AT MOST 1048576: true; the input reads as it did. -/
def stackPlaysUptoRow : OpenClaim := { program := "ytmmmhkpekaimeaa", sum := "12b1ed51e28945c17df4509c3296299b5aa127c880faeae8e31e9220a4d978b1", func := "alidade/alidadelaw10.StackPlays", spec := "stackPlays", apart := false, narrowed := true }
def StackPlaysUptoSaid : Prop := stackPlaysUptoRow.holds Try.pinned (OpenSpec.upto stackPlaysSpec)

/-- 'alidadelaw10.StackParts', WHERE WHAT IT READS IS OF BULK AT MOST 1048576: true; the input reads as it did. -/
def stackPartsUptoRow : OpenClaim := { program := "ytmmmhkpekaimeaa", sum := "12b1ed51e28945c17df4509c3296299b5aa127c880faeae8e31e9220a4d978b1", func := "alidade/alidadelaw10.StackParts", spec := "stackParts", unfollowed := true, recurses := true, apart := false, narrowed := true }
def StackPartsUptoSaid : Prop := stackPartsUptoRow.holds Try.pinned (OpenSpec.upto stackPartsSpec)

/-- 'alidadelaw10.StackNone', WHERE WHAT IT READS IS OF BULK AT MOST 1048576: true; the input reads as it did. -/
def stackNoneUptoRow : OpenClaim := { program := "ytmmmhkpekaimeaa", sum := "12b1ed51e28945c17df4509c3296299b5aa127c880faeae8e31e9220a4d978b1", func := "alidade/alidadelaw10.StackNone", spec := "stackNone", unfollowed := true, recurses := true, apart := false, narrowed := true }
def StackNoneUptoSaid : Prop := stackNoneUptoRow.holds Try.pinned (OpenSpec.upto stackNoneSpec)

end Rows
end Go.Proofs.Ytmmmhkpekaimeaa
