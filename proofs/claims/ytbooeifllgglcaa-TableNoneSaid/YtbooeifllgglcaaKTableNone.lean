/- The closed facts of 'alidadelaw24.TableNone', one by one. -/
import Derived.Test.YtbooeifllgglcaaProg
import Derived.Test.YtbooeifllgglcaaRows
import Derived.Test.YtbooeifllgglcaaEp
import Derived.ProofKit
set_option linter.unusedVariables false
set_option maxRecDepth 100000
namespace Go.Proofs.Ytbooeifllgglcaa.tableNone
open Go
theorem k1 : (Rows.tableNoneRow.wf (OpenSpec.ofChange Rows.tableNoneSpec)) = true := by kernel_rfl
theorem k2 : (laidOutB Try.prog) = true := by kernel_rfl
theorem k3 : (mapsRowed Try.prog) = true := by kernel_rfl
theorem k4 : (Try.f12.params.all (Try.prog.readableRec ·)) = true := by kernel_rfl
theorem k5 : (namedTie Try.prog Rows.tableNoneRow.named Rows.tableNoneSpec.vars) = true := by kernel_rfl
theorem k6 : ((Rows.tableNoneRow.stops == [])) = true := by kernel_rfl
theorem k7 : ((Try.prog.stops == [])) = true := by kernel_rfl
theorem k8 : ((Rows.tableNoneRow.knobs == [])) = true := by kernel_rfl
theorem k9 : ((Try.prog.stopKnobs == [])) = true := by kernel_rfl
theorem k10 : ((Rows.tableNoneRow.inPlace == Try.prog.inPlace 12)) = true := by kernel_rfl
theorem k11 : ((Rows.tableNoneRow.unfollowed == Try.prog.unfollowed 12)) = true := by kernel_rfl
theorem k12 : ((Rows.tableNoneRow.recurses == Try.prog.recurses 12)) = true := by kernel_rfl
theorem k13 : ((Rows.tableNoneRow.named == Try.prog.varsNamed 12)) = true := by kernel_rfl
theorem k14 : ((Rows.tableNoneRow.maps == (Try.f12.params.toList ++ Rows.tableNoneSpec.plain.varTypes Try.prog).any (Try.prog.mapsRec ·))) = true := by kernel_rfl
theorem k15 : ((Rows.tableNoneRow.ifaces == (Try.f12.params.toList ++ Rows.tableNoneSpec.plain.varTypes Try.prog).any (Try.prog.ifacesRec ·))) = true := by kernel_rfl
theorem k16 : ((Rows.tableNoneRow.mapsOut == Try.prog.mapsAmong Try.f12.resultTypes.toList)) = true := by kernel_rfl
theorem k17 : ((Rows.tableNoneRow.loops == (Try.f12.params.toList ++ Rows.tableNoneSpec.plain.varTypes Try.prog).any (Try.prog.loopsFrom ·))) = true := by kernel_rfl
theorem k18 : ((Rows.tableNoneRow.wideKeys == (Try.f12.params.toList ++ Rows.tableNoneSpec.plain.varTypes Try.prog ++ Try.f12.resultTypes.toList).any (Try.prog.wideKeysFrom ·))) = true := by kernel_rfl
theorem k19 : (Rows.tableNoneSpec.vars.all (Try.prog.varReadable ·)) = true := by kernel_rfl
theorem k20 : (Try.f12.resultTypes.all (fun t => Try.prog.readableRec t && decide (t < Try.prog.types.size))) = true := by kernel_rfl
theorem k21 : ((Rows.tableNoneRow.ifacesOut == Try.f12.resultTypes.toList.any (Try.prog.ifacesRec ·))) = true := by kernel_rfl
theorem k22 : ((Rows.tableNoneRow.loopsOut == Try.f12.resultTypes.toList.any (Try.prog.loopsFrom ·))) = true := by kernel_rfl
theorem k23 : ((Rows.tableNoneRow.plainKeys == Try.prog.plainKeys)) = true := by kernel_rfl
theorem k24 : (Rows.tableNoneRow.shortTexts.isNone) = true := by kernel_rfl
theorem k25 : (Try.prog.stopsHeard) = true := by kernel_rfl
theorem k26 : (Try.prog.mayEnter) = true := by kernel_rfl
theorem k27 : ((Rows.tableNoneRow.lifted == Try.prog.liftsFinal)) = true := by kernel_rfl
theorem k28 : ((Try.prog.make == some Rows.tableNoneRow.make)) = true := by kernel_rfl
theorem k29 : ((Rows.tableNoneRow.kinds == (if Rows.tableNoneRow.domain.isEmpty then [] else Try.f12.params.toList.map fun t => match Try.prog.underlying t with | some (.int k) => some k | _ => none))) = true := by kernel_rfl
theorem k30 : ((Rows.tableNoneRow.pinned == Rows.tableNoneRow.pinnedBy)) = true := by kernel_rfl
theorem k31 : ((Rows.tableNoneRow.veiled == (Try.f12.params.toList ++ Rows.tableNoneSpec.plain.varTypes Try.prog ++ Try.f12.resultTypes.toList).any (Try.prog.veiledRec ·))) = true := by kernel_rfl
theorem k32 : (Rows.tableNoneRow.veiledFits Try.prog Try.f12.params.toList (Try.f12.params.toList ++ Rows.tableNoneSpec.plain.varTypes Try.prog ++ Try.f12.resultTypes.toList)) = true := by kernel_rfl
theorem closed : joinedFacts Try.prog 12 Try.f12 Rows.tableNoneSpec Rows.tableNoneRow = true :=
  Ev.facts_of k1 k2 k3 k4 k5 k6 k7 k8 k9 k10 k11 k12 k13 k14 k15 k16 k17 k18 k19 k20 k21 k22 k23 k24 k25 k26 k27 k28 k29 k30 k31 k32
end Go.Proofs.Ytbooeifllgglcaa.tableNone
