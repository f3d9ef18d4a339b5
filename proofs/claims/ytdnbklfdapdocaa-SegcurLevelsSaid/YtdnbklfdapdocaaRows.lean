/-
  No cell of these rows narrows 'for every input' (looked for: loops, veiled, ifaces, maps, wideKeys, modest, calm, conditions, laid).
  DERIVED. THE GIVEN ROWS OF THIS SEAT. 5 by the template 'for every input the law returns true; each argument reads behind the call as it read before'; 0 by the template 'total and deterministic' (their statements: YtdnbklfdapdocaaTotals.lean).
  GIVEN WITH THE SEED: the statements are not yours to turn. If you find one false, say at which input.
  Laid BY PROGRAM, IN A SANDBOX (cutbox-rows.mjs): the forced cells as the released guide's own fill.sh prints them over the translation e2cbc9d45fa96dfb… (all of the seat's roots in one cut). By AI agents, Wed Nov 11 2026. No macro, syntax, notation, axiom, sorry.
-/
import Derived.Test.YtdnbklfdapdocaaChecked
import GoSem.Claim
import GoSem.ClaimJoined
import GoSem.ClaimMapViews
import Derived.JoinedTies
import Derived.KernelRfl
namespace Go.Proofs.Ytdnbklfdapdocaa
/- THE CELL 'sum', in the pinned program and in every row, IS THE sha256 OF THE DUMP (.gsa) THAT YtdnbklfdapdocaaProg.lean LOADS. Nothing in Lean hashes anything: it is a label: what it is worth is what the hold of that sum in a sandbox is worth. -/
noncomputable def Try.pinned : Pinned := { name := "ytdnbklfdapdocaa", sum := "e2cbc9d45fa96dfb3711c85eb992c61278e3e8b9a0390e0f498f1b5b91ff2889", checked := Try.checked }
namespace Rows
def none {H : Type} : Left H := { results := [], args := [] }

/-- 'alidadelaw13.KdcurNone': WHATEVER THE INPUT: true; the input reads as it did. -/
def kdcurNoneSpec : ChangeSpec := { name := "kdcurNone", fn := fun _ => fun
  | [d1, d2] => { results := [.lit (.bool true)], args := [d1, d2] }
  | _ => none }
def kdcurNoneRow : OpenClaim := { program := "ytdnbklfdapdocaa", sum := "e2cbc9d45fa96dfb3711c85eb992c61278e3e8b9a0390e0f498f1b5b91ff2889", func := "alidade/alidadelaw13.KdcurNone", spec := "kdcurNone", unfollowed := true, recurses := true, apart := false }
def KdcurNoneSaid : Prop := kdcurNoneRow.holds Try.pinned (OpenSpec.ofChange kdcurNoneSpec)

/-- ITS FALSE NEIGHBOUR: 'it returns false'. Refute it at one input. -/
def kdcurNoneWrong : ChangeSpec := { name := "kdcurNone", fn := fun _ => fun
  | [d1, d2] => { results := [.lit (.bool false)], args := [d1, d2] }
  | _ => none }
def KdcurNoneWrongFalsely : Prop := kdcurNoneRow.holds Try.pinned (OpenSpec.ofChange kdcurNoneWrong)

/-- 'alidadelaw21.ItcurNone': WHATEVER THE INPUT: true; the input reads as it did. -/
def itcurNoneSpec : ChangeSpec := { name := "itcurNone", fn := fun _ => fun
  | [d1, d2] => { results := [.lit (.bool true)], args := [d1, d2] }
  | _ => none }
def itcurNoneRow : OpenClaim := { program := "ytdnbklfdapdocaa", sum := "e2cbc9d45fa96dfb3711c85eb992c61278e3e8b9a0390e0f498f1b5b91ff2889", func := "alidade/alidadelaw21.ItcurNone", spec := "itcurNone", inPlace := ["slices.overlaps[alidade/api.Span]"], unfollowed := true, recurses := true, apart := false }
def ItcurNoneSaid : Prop := itcurNoneRow.holds Try.pinned (OpenSpec.ofChange itcurNoneSpec)

/-- ITS FALSE NEIGHBOUR: 'it returns false'. Refute it at one input. -/
def itcurNoneWrong : ChangeSpec := { name := "itcurNone", fn := fun _ => fun
  | [d1, d2] => { results := [.lit (.bool false)], args := [d1, d2] }
  | _ => none }
def ItcurNoneWrongFalsely : Prop := itcurNoneRow.holds Try.pinned (OpenSpec.ofChange itcurNoneWrong)

/-- 'alidadelaw22.SegsNone': WHATEVER THE INPUT: true; the input reads as it did. -/
def segsNoneSpec : ChangeSpec := { name := "segsNone", fn := fun _ => fun
  | [d1, d2] => { results := [.lit (.bool true)], args := [d1, d2] }
  | _ => none }
def segsNoneRow : OpenClaim := { program := "ytdnbklfdapdocaa", sum := "e2cbc9d45fa96dfb3711c85eb992c61278e3e8b9a0390e0f498f1b5b91ff2889", func := "alidade/alidadelaw22.SegsNone", spec := "segsNone", inPlace := ["slices.overlaps[alidade/api.Span]", "slices.overlaps[int]"], unfollowed := true, recurses := true, apart := false }
def SegsNoneSaid : Prop := segsNoneRow.holds Try.pinned (OpenSpec.ofChange segsNoneSpec)

/-- ITS FALSE NEIGHBOUR: 'it returns false'. Refute it at one input. -/
def segsNoneWrong : ChangeSpec := { name := "segsNone", fn := fun _ => fun
  | [d1, d2] => { results := [.lit (.bool false)], args := [d1, d2] }
  | _ => none }
def SegsNoneWrongFalsely : Prop := segsNoneRow.holds Try.pinned (OpenSpec.ofChange segsNoneWrong)

/-- 'alidadelaw23.SegcurLevels': WHATEVER THE INPUT: true; the input reads as it did. -/
def segcurLevelsSpec : ChangeSpec := { name := "segcurLevels", fn := fun _ => fun
  | [d1, d2] => { results := [.lit (.bool true)], args := [d1, d2] }
  | _ => none }
def segcurLevelsRow : OpenClaim := { program := "ytdnbklfdapdocaa", sum := "e2cbc9d45fa96dfb3711c85eb992c61278e3e8b9a0390e0f498f1b5b91ff2889", func := "alidade/alidadelaw23.SegcurLevels", spec := "segcurLevels", inPlace := ["slices.overlaps[alidade/api.Span]", "slices.overlaps[int]"], unfollowed := true, recurses := true, apart := false }
def SegcurLevelsSaid : Prop := segcurLevelsRow.holds Try.pinned (OpenSpec.ofChange segcurLevelsSpec)

/-- ITS FALSE NEIGHBOUR: 'it returns false'. Refute it at one input. -/
def segcurLevelsWrong : ChangeSpec := { name := "segcurLevels", fn := fun _ => fun
  | [d1, d2] => { results := [.lit (.bool false)], args := [d1, d2] }
  | _ => none }
def SegcurLevelsWrongFalsely : Prop := segcurLevelsRow.holds Try.pinned (OpenSpec.ofChange segcurLevelsWrong)

/-- 'alidadelaw23.SegcurNone': WHATEVER THE INPUT: true; the input reads as it did. -/
def segcurNoneSpec : ChangeSpec := { name := "segcurNone", fn := fun _ => fun
  | [d1, d2] => { results := [.lit (.bool true)], args := [d1, d2] }
  | _ => none }
def segcurNoneRow : OpenClaim := { program := "ytdnbklfdapdocaa", sum := "e2cbc9d45fa96dfb3711c85eb992c61278e3e8b9a0390e0f498f1b5b91ff2889", func := "alidade/alidadelaw23.SegcurNone", spec := "segcurNone", inPlace := ["slices.overlaps[alidade/api.Span]", "slices.overlaps[int]"], unfollowed := true, recurses := true, apart := false }
def SegcurNoneSaid : Prop := segcurNoneRow.holds Try.pinned (OpenSpec.ofChange segcurNoneSpec)

/-- ITS FALSE NEIGHBOUR: 'it returns false'. Refute it at one input. -/
def segcurNoneWrong : ChangeSpec := { name := "segcurNone", fn := fun _ => fun
  | [d1, d2] => { results := [.lit (.bool false)], args := [d1, d2] }
  | _ => none }
def SegcurNoneWrongFalsely : Prop := segcurNoneRow.holds Try.pinned (OpenSpec.ofChange segcurNoneWrong)

/- THE SECOND FORM. 'bulk': how many values and letters a reading holds, each counted each time it is reached (what is shared counts as often as it is met; a slice's spare places count too). A statement '..UptoSaid' is the law's where the arguments, and the package variables that the reading takes, are together of bulk at most 1048576: NARROWER than '..Said'. Prove '..Said' where nothing that the law and all that it calls make is longer than what came in: it says more and counts as full. Else prove '..UptoSaid'. A law counts once. -/
mutual
def uptoBulk {H : Type} : DataW H → Nat
  | .lit (.string bytes) => bytes.length + 1
  | .lit _ => 1
  | .nil => 1
  | .ptr d => uptoBulk d + 1
  | .slice elems spare => uptoBulkAll elems + uptoBulkAll spare + 1
  | .agg parts => uptoBulkAll parts + 1
  | .iface _ d => uptoBulk d + 1
  | .map entries => uptoBulkEntries entries + 1
  | .held _ => 1
def uptoBulkAll {H : Type} : List (DataW H) → Nat
  | [] => 0
  | d :: r => uptoBulk d + uptoBulkAll r
def uptoBulkEntries {H : Type} : List (Lit × DataW H) → Nat
  | [] => 0
  | x :: r => uptoBulkEntry x + uptoBulkEntries r
def uptoBulkEntry {H : Type} : Lit × DataW H → Nat
  | (.string bytes, d) => bytes.length + uptoBulk d + 1
  | (_, d) => uptoBulk d + 1
 end
def uptoSmall : (H : Type) → List (DataW H) → Bool := fun _ ds => decide (uptoBulkAll ds ≤ 1048576)
def OpenSpec.upto (s : _root_.Go.ChangeSpec) : _root_.Go.OpenSpec := { _root_.Go.OpenSpec.ofChange s with cond := some uptoSmall }

/-- 'alidadelaw13.KdcurNone', WHERE WHAT IT READS IS OF BULK AT MOST 1048576: true; the input reads as it did. -/
def kdcurNoneUptoRow : OpenClaim := { program := "ytdnbklfdapdocaa", sum := "e2cbc9d45fa96dfb3711c85eb992c61278e3e8b9a0390e0f498f1b5b91ff2889", func := "alidade/alidadelaw13.KdcurNone", spec := "kdcurNone", unfollowed := true, recurses := true, apart := false, narrowed := true }
def KdcurNoneUptoSaid : Prop := kdcurNoneUptoRow.holds Try.pinned (OpenSpec.upto kdcurNoneSpec)

/-- 'alidadelaw21.ItcurNone', WHERE WHAT IT READS IS OF BULK AT MOST 1048576: true; the input reads as it did. -/
def itcurNoneUptoRow : OpenClaim := { program := "ytdnbklfdapdocaa", sum := "e2cbc9d45fa96dfb3711c85eb992c61278e3e8b9a0390e0f498f1b5b91ff2889", func := "alidade/alidadelaw21.ItcurNone", spec := "itcurNone", inPlace := ["slices.overlaps[alidade/api.Span]"], unfollowed := true, recurses := true, apart := false, narrowed := true }
def ItcurNoneUptoSaid : Prop := itcurNoneUptoRow.holds Try.pinned (OpenSpec.upto itcurNoneSpec)

/-- 'alidadelaw22.SegsNone', WHERE WHAT IT READS IS OF BULK AT MOST 1048576: true; the input reads as it did. -/
def segsNoneUptoRow : OpenClaim := { program := "ytdnbklfdapdocaa", sum := "e2cbc9d45fa96dfb3711c85eb992c61278e3e8b9a0390e0f498f1b5b91ff2889", func := "alidade/alidadelaw22.SegsNone", spec := "segsNone", inPlace := ["slices.overlaps[alidade/api.Span]", "slices.overlaps[int]"], unfollowed := true, recurses := true, apart := false, narrowed := true }
def SegsNoneUptoSaid : Prop := segsNoneUptoRow.holds Try.pinned (OpenSpec.upto segsNoneSpec)

/-- 'alidadelaw23.SegcurLevels', WHERE WHAT IT READS IS OF BULK AT MOST 1048576: true; the input reads as it did. -/
def segcurLevelsUptoRow : OpenClaim := { program := "ytdnbklfdapdocaa", sum := "e2cbc9d45fa96dfb3711c85eb992c61278e3e8b9a0390e0f498f1b5b91ff2889", func := "alidade/alidadelaw23.SegcurLevels", spec := "segcurLevels", inPlace := ["slices.overlaps[alidade/api.Span]", "slices.overlaps[int]"], unfollowed := true, recurses := true, apart := false, narrowed := true }
def SegcurLevelsUptoSaid : Prop := segcurLevelsUptoRow.holds Try.pinned (OpenSpec.upto segcurLevelsSpec)

/-- 'alidadelaw23.SegcurNone', WHERE WHAT IT READS IS OF BULK AT MOST 1048576: true; the input reads as it did. -/
def segcurNoneUptoRow : OpenClaim := { program := "ytdnbklfdapdocaa", sum := "e2cbc9d45fa96dfb3711c85eb992c61278e3e8b9a0390e0f498f1b5b91ff2889", func := "alidade/alidadelaw23.SegcurNone", spec := "segcurNone", inPlace := ["slices.overlaps[alidade/api.Span]", "slices.overlaps[int]"], unfollowed := true, recurses := true, apart := false, narrowed := true }
def SegcurNoneUptoSaid : Prop := segcurNoneUptoRow.holds Try.pinned (OpenSpec.upto segcurNoneSpec)

end Rows
end Go.Proofs.Ytdnbklfdapdocaa
