/- The closed facts of 'alidadelaw15.PstcurNone', one by one. -/
import Derived.Test.YtbooeifllgglcaaProg
import Derived.Test.YtbooeifllgglcaaRows
import Derived.Test.YtbooeifllgglcaaEp
import Derived.ProofKit
set_option linter.unusedVariables false
set_option maxRecDepth 100000
namespace Go.Proofs.Ytbooeifllgglcaa.pstcurNone
open Go
theorem k1 : (Rows.pstcurNoneRow.wf (OpenSpec.ofChange Rows.pstcurNoneSpec)) = true := by kernel_rfl
theorem k2 : (laidOutB Try.prog) = true := by kernel_rfl
theorem k3 : (mapsRowed Try.prog) = true := by kernel_rfl
theorem k4 : (Try.f6.params.all (Try.prog.readableRec ·)) = true := by kernel_rfl
theorem k5 : (namedTie Try.prog Rows.pstcurNoneRow.named Rows.pstcurNoneSpec.vars) = true := by kernel_rfl
theorem k6 : ((Rows.pstcurNoneRow.stops == [])) = true := by kernel_rfl
theorem k7 : ((Try.prog.stops == [])) = true := by kernel_rfl
theorem k8 : ((Rows.pstcurNoneRow.knobs == [])) = true := by kernel_rfl
theorem k9 : ((Try.prog.stopKnobs == [])) = true := by kernel_rfl
theorem k10 : ((Rows.pstcurNoneRow.inPlace == Try.prog.inPlace 6)) = true := by kernel_rfl
theorem k11 : ((Rows.pstcurNoneRow.unfollowed == Try.prog.unfollowed 6)) = true := by kernel_rfl
theorem k12 : ((Rows.pstcurNoneRow.recurses == Try.prog.recurses 6)) = true := by kernel_rfl
theorem k13 : ((Rows.pstcurNoneRow.named == Try.prog.varsNamed 6)) = true := by kernel_rfl
theorem k14 : ((Rows.pstcurNoneRow.maps == (Try.f6.params.toList ++ Rows.pstcurNoneSpec.plain.varTypes Try.prog).any (Try.prog.mapsRec ·))) = true := by kernel_rfl
theorem k15 : ((Rows.pstcurNoneRow.ifaces == (Try.f6.params.toList ++ Rows.pstcurNoneSpec.plain.varTypes Try.prog).any (Try.prog.ifacesRec ·))) = true := by kernel_rfl
theorem k16 : ((Rows.pstcurNoneRow.mapsOut == Try.prog.mapsAmong Try.f6.resultTypes.toList)) = true := by kernel_rfl
theorem k17 : ((Rows.pstcurNoneRow.loops == (Try.f6.params.toList ++ Rows.pstcurNoneSpec.plain.varTypes Try.prog).any (Try.prog.loopsFrom ·))) = true := by kernel_rfl
theorem k18 : ((Rows.pstcurNoneRow.wideKeys == (Try.f6.params.toList ++ Rows.pstcurNoneSpec.plain.varTypes Try.prog ++ Try.f6.resultTypes.toList).any (Try.prog.wideKeysFrom ·))) = true := by kernel_rfl
theorem k19 : (Rows.pstcurNoneSpec.vars.all (Try.prog.varReadable ·)) = true := by kernel_rfl
theorem k20 : (Try.f6.resultTypes.all (fun t => Try.prog.readableRec t && decide (t < Try.prog.types.size))) = true := by kernel_rfl
theorem k21 : ((Rows.pstcurNoneRow.ifacesOut == Try.f6.resultTypes.toList.any (Try.prog.ifacesRec ·))) = true := by kernel_rfl
theorem k22 : ((Rows.pstcurNoneRow.loopsOut == Try.f6.resultTypes.toList.any (Try.prog.loopsFrom ·))) = true := by kernel_rfl
theorem k23 : ((Rows.pstcurNoneRow.plainKeys == Try.prog.plainKeys)) = true := by kernel_rfl
theorem k24 : (Rows.pstcurNoneRow.shortTexts.isNone) = true := by kernel_rfl
theorem k25 : (Try.prog.stopsHeard) = true := by kernel_rfl
theorem k26 : (Try.prog.mayEnter) = true := by kernel_rfl
theorem k27 : ((Rows.pstcurNoneRow.lifted == Try.prog.liftsFinal)) = true := by kernel_rfl
theorem k28 : ((Try.prog.make == some Rows.pstcurNoneRow.make)) = true := by kernel_rfl
theorem k29 : ((Rows.pstcurNoneRow.kinds == (if Rows.pstcurNoneRow.domain.isEmpty then [] else Try.f6.params.toList.map fun t => match Try.prog.underlying t with | some (.int k) => some k | _ => none))) = true := by kernel_rfl
theorem k30 : ((Rows.pstcurNoneRow.pinned == Rows.pstcurNoneRow.pinnedBy)) = true := by kernel_rfl
theorem k31 : ((Rows.pstcurNoneRow.veiled == (Try.f6.params.toList ++ Rows.pstcurNoneSpec.plain.varTypes Try.prog ++ Try.f6.resultTypes.toList).any (Try.prog.veiledRec ·))) = true := by kernel_rfl
theorem k32 : (Rows.pstcurNoneRow.veiledFits Try.prog Try.f6.params.toList (Try.f6.params.toList ++ Rows.pstcurNoneSpec.plain.varTypes Try.prog ++ Try.f6.resultTypes.toList)) = true := by kernel_rfl
theorem closed : joinedFacts Try.prog 6 Try.f6 Rows.pstcurNoneSpec Rows.pstcurNoneRow = true :=
  Ev.facts_of k1 k2 k3 k4 k5 k6 k7 k8 k9 k10 k11 k12 k13 k14 k15 k16 k17 k18 k19 k20 k21 k22 k23 k24 k25 k26 k27 k28 k29 k30 k31 k32
end Go.Proofs.Ytbooeifllgglcaa.pstcurNone
