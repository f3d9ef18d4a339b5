/- The closed facts of 'alidadelaw16.CascadeNone', one by one. -/
import Derived.Test.YtbooeifllgglcaaProg
import Derived.Test.YtbooeifllgglcaaRows
import Derived.Test.YtbooeifllgglcaaEp
import Derived.ProofKit
set_option linter.unusedVariables false
set_option maxRecDepth 100000
namespace Go.Proofs.Ytbooeifllgglcaa.cascadeNone
open Go
theorem k1 : (Rows.cascadeNoneRow.wf (OpenSpec.ofChange Rows.cascadeNoneSpec)) = true := by kernel_rfl
theorem k2 : (laidOutB Try.prog) = true := by kernel_rfl
theorem k3 : (mapsRowed Try.prog) = true := by kernel_rfl
theorem k4 : (Try.f7.params.all (Try.prog.readableRec ·)) = true := by kernel_rfl
theorem k5 : (namedTie Try.prog Rows.cascadeNoneRow.named Rows.cascadeNoneSpec.vars) = true := by kernel_rfl
theorem k6 : ((Rows.cascadeNoneRow.stops == [])) = true := by kernel_rfl
theorem k7 : ((Try.prog.stops == [])) = true := by kernel_rfl
theorem k8 : ((Rows.cascadeNoneRow.knobs == [])) = true := by kernel_rfl
theorem k9 : ((Try.prog.stopKnobs == [])) = true := by kernel_rfl
theorem k10 : ((Rows.cascadeNoneRow.inPlace == Try.prog.inPlace 7)) = true := by kernel_rfl
theorem k11 : ((Rows.cascadeNoneRow.unfollowed == Try.prog.unfollowed 7)) = true := by kernel_rfl
theorem k12 : ((Rows.cascadeNoneRow.recurses == Try.prog.recurses 7)) = true := by kernel_rfl
theorem k13 : ((Rows.cascadeNoneRow.named == Try.prog.varsNamed 7)) = true := by kernel_rfl
theorem k14 : ((Rows.cascadeNoneRow.maps == (Try.f7.params.toList ++ Rows.cascadeNoneSpec.plain.varTypes Try.prog).any (Try.prog.mapsRec ·))) = true := by kernel_rfl
theorem k15 : ((Rows.cascadeNoneRow.ifaces == (Try.f7.params.toList ++ Rows.cascadeNoneSpec.plain.varTypes Try.prog).any (Try.prog.ifacesRec ·))) = true := by kernel_rfl
theorem k16 : ((Rows.cascadeNoneRow.mapsOut == Try.prog.mapsAmong Try.f7.resultTypes.toList)) = true := by kernel_rfl
theorem k17 : ((Rows.cascadeNoneRow.loops == (Try.f7.params.toList ++ Rows.cascadeNoneSpec.plain.varTypes Try.prog).any (Try.prog.loopsFrom ·))) = true := by kernel_rfl
theorem k18 : ((Rows.cascadeNoneRow.wideKeys == (Try.f7.params.toList ++ Rows.cascadeNoneSpec.plain.varTypes Try.prog ++ Try.f7.resultTypes.toList).any (Try.prog.wideKeysFrom ·))) = true := by kernel_rfl
theorem k19 : (Rows.cascadeNoneSpec.vars.all (Try.prog.varReadable ·)) = true := by kernel_rfl
theorem k20 : (Try.f7.resultTypes.all (fun t => Try.prog.readableRec t && decide (t < Try.prog.types.size))) = true := by kernel_rfl
theorem k21 : ((Rows.cascadeNoneRow.ifacesOut == Try.f7.resultTypes.toList.any (Try.prog.ifacesRec ·))) = true := by kernel_rfl
theorem k22 : ((Rows.cascadeNoneRow.loopsOut == Try.f7.resultTypes.toList.any (Try.prog.loopsFrom ·))) = true := by kernel_rfl
theorem k23 : ((Rows.cascadeNoneRow.plainKeys == Try.prog.plainKeys)) = true := by kernel_rfl
theorem k24 : (Rows.cascadeNoneRow.shortTexts.isNone) = true := by kernel_rfl
theorem k25 : (Try.prog.stopsHeard) = true := by kernel_rfl
theorem k26 : (Try.prog.mayEnter) = true := by kernel_rfl
theorem k27 : ((Rows.cascadeNoneRow.lifted == Try.prog.liftsFinal)) = true := by kernel_rfl
theorem k28 : ((Try.prog.make == some Rows.cascadeNoneRow.make)) = true := by kernel_rfl
theorem k29 : ((Rows.cascadeNoneRow.kinds == (if Rows.cascadeNoneRow.domain.isEmpty then [] else Try.f7.params.toList.map fun t => match Try.prog.underlying t with | some (.int k) => some k | _ => none))) = true := by kernel_rfl
theorem k30 : ((Rows.cascadeNoneRow.pinned == Rows.cascadeNoneRow.pinnedBy)) = true := by kernel_rfl
theorem k31 : ((Rows.cascadeNoneRow.veiled == (Try.f7.params.toList ++ Rows.cascadeNoneSpec.plain.varTypes Try.prog ++ Try.f7.resultTypes.toList).any (Try.prog.veiledRec ·))) = true := by kernel_rfl
theorem k32 : (Rows.cascadeNoneRow.veiledFits Try.prog Try.f7.params.toList (Try.f7.params.toList ++ Rows.cascadeNoneSpec.plain.varTypes Try.prog ++ Try.f7.resultTypes.toList)) = true := by kernel_rfl
theorem closed : joinedFacts Try.prog 7 Try.f7 Rows.cascadeNoneSpec Rows.cascadeNoneRow = true :=
  Ev.facts_of k1 k2 k3 k4 k5 k6 k7 k8 k9 k10 k11 k12 k13 k14 k15 k16 k17 k18 k19 k20 k21 k22 k23 k24 k25 k26 k27 k28 k29 k30 k31 k32
end Go.Proofs.Ytbooeifllgglcaa.cascadeNone
