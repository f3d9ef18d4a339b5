/- The closed facts of 'alidadelaw14.PstNone', one by one. -/
import Derived.Test.YtbooeifllgglcaaProg
import Derived.Test.YtbooeifllgglcaaRows
import Derived.Test.YtbooeifllgglcaaEp
import Derived.ProofKit
set_option linter.unusedVariables false
set_option maxRecDepth 100000
namespace Go.Proofs.Ytbooeifllgglcaa.pstNone
open Go
theorem k1 : (Rows.pstNoneRow.wf (OpenSpec.ofChange Rows.pstNoneSpec)) = true := by kernel_rfl
theorem k2 : (laidOutB Try.prog) = true := by kernel_rfl
theorem k3 : (mapsRowed Try.prog) = true := by kernel_rfl
theorem k4 : (Try.f5.params.all (Try.prog.readableRec ·)) = true := by kernel_rfl
theorem k5 : (namedTie Try.prog Rows.pstNoneRow.named Rows.pstNoneSpec.vars) = true := by kernel_rfl
theorem k6 : ((Rows.pstNoneRow.stops == [])) = true := by kernel_rfl
theorem k7 : ((Try.prog.stops == [])) = true := by kernel_rfl
theorem k8 : ((Rows.pstNoneRow.knobs == [])) = true := by kernel_rfl
theorem k9 : ((Try.prog.stopKnobs == [])) = true := by kernel_rfl
theorem k10 : ((Rows.pstNoneRow.inPlace == Try.prog.inPlace 5)) = true := by kernel_rfl
theorem k11 : ((Rows.pstNoneRow.unfollowed == Try.prog.unfollowed 5)) = true := by kernel_rfl
theorem k12 : ((Rows.pstNoneRow.recurses == Try.prog.recurses 5)) = true := by kernel_rfl
theorem k13 : ((Rows.pstNoneRow.named == Try.prog.varsNamed 5)) = true := by kernel_rfl
theorem k14 : ((Rows.pstNoneRow.maps == (Try.f5.params.toList ++ Rows.pstNoneSpec.plain.varTypes Try.prog).any (Try.prog.mapsRec ·))) = true := by kernel_rfl
theorem k15 : ((Rows.pstNoneRow.ifaces == (Try.f5.params.toList ++ Rows.pstNoneSpec.plain.varTypes Try.prog).any (Try.prog.ifacesRec ·))) = true := by kernel_rfl
theorem k16 : ((Rows.pstNoneRow.mapsOut == Try.prog.mapsAmong Try.f5.resultTypes.toList)) = true := by kernel_rfl
theorem k17 : ((Rows.pstNoneRow.loops == (Try.f5.params.toList ++ Rows.pstNoneSpec.plain.varTypes Try.prog).any (Try.prog.loopsFrom ·))) = true := by kernel_rfl
theorem k18 : ((Rows.pstNoneRow.wideKeys == (Try.f5.params.toList ++ Rows.pstNoneSpec.plain.varTypes Try.prog ++ Try.f5.resultTypes.toList).any (Try.prog.wideKeysFrom ·))) = true := by kernel_rfl
theorem k19 : (Rows.pstNoneSpec.vars.all (Try.prog.varReadable ·)) = true := by kernel_rfl
theorem k20 : (Try.f5.resultTypes.all (fun t => Try.prog.readableRec t && decide (t < Try.prog.types.size))) = true := by kernel_rfl
theorem k21 : ((Rows.pstNoneRow.ifacesOut == Try.f5.resultTypes.toList.any (Try.prog.ifacesRec ·))) = true := by kernel_rfl
theorem k22 : ((Rows.pstNoneRow.loopsOut == Try.f5.resultTypes.toList.any (Try.prog.loopsFrom ·))) = true := by kernel_rfl
theorem k23 : ((Rows.pstNoneRow.plainKeys == Try.prog.plainKeys)) = true := by kernel_rfl
theorem k24 : (Rows.pstNoneRow.shortTexts.isNone) = true := by kernel_rfl
theorem k25 : (Try.prog.stopsHeard) = true := by kernel_rfl
theorem k26 : (Try.prog.mayEnter) = true := by kernel_rfl
theorem k27 : ((Rows.pstNoneRow.lifted == Try.prog.liftsFinal)) = true := by kernel_rfl
theorem k28 : ((Try.prog.make == some Rows.pstNoneRow.make)) = true := by kernel_rfl
theorem k29 : ((Rows.pstNoneRow.kinds == (if Rows.pstNoneRow.domain.isEmpty then [] else Try.f5.params.toList.map fun t => match Try.prog.underlying t with | some (.int k) => some k | _ => none))) = true := by kernel_rfl
theorem k30 : ((Rows.pstNoneRow.pinned == Rows.pstNoneRow.pinnedBy)) = true := by kernel_rfl
theorem k31 : ((Rows.pstNoneRow.veiled == (Try.f5.params.toList ++ Rows.pstNoneSpec.plain.varTypes Try.prog ++ Try.f5.resultTypes.toList).any (Try.prog.veiledRec ·))) = true := by kernel_rfl
theorem k32 : (Rows.pstNoneRow.veiledFits Try.prog Try.f5.params.toList (Try.f5.params.toList ++ Rows.pstNoneSpec.plain.varTypes Try.prog ++ Try.f5.resultTypes.toList)) = true := by kernel_rfl
theorem closed : joinedFacts Try.prog 5 Try.f5 Rows.pstNoneSpec Rows.pstNoneRow = true :=
  Ev.facts_of k1 k2 k3 k4 k5 k6 k7 k8 k9 k10 k11 k12 k13 k14 k15 k16 k17 k18 k19 k20 k21 k22 k23 k24 k25 k26 k27 k28 k29 k30 k31 k32
end Go.Proofs.Ytbooeifllgglcaa.pstNone
