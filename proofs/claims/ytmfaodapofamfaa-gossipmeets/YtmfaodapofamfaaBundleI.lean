/- Own texts, one behind the other (part 9). -/
import Derived.Test.YtmfaodapofamfaaBundleH
import Derived.Test.YtmfaodapofamfaaRows
import Derived.ProofKit
import Derived.JoinedOf
/- The closed facts of the row, one by one. -/
namespace Go.Proofs.Ytmfaodapofamfaa
open Go.ChangeShapes Go.WideShapes Go.ChangeAt Go.RowKit
theorem gsMeets_and {a b : Bool} (ha : a = true) (hb : b = true) : (a && b) = true := by rw [ha, hb]; rfl
theorem gsMeets_j1 : Rows.gossipMeetsRow.wf (OpenSpec.ofChange Rows.gossipMeetsSpec) = true := by kernel_rfl
theorem gsMeets_j2 : laidOutB Try.prog = true := by kernel_rfl
theorem gsMeets_j3 : mapsRowed Try.prog = true := by kernel_rfl
theorem gsMeets_j4 : Try.f3.params.all (Try.prog.readableRec ·) = true := by kernel_rfl
theorem gsMeets_j5 : namedTie Try.prog Rows.gossipMeetsRow.named Rows.gossipMeetsSpec.vars = true := by kernel_rfl
theorem gsMeets_j6 : (Rows.gossipMeetsRow.stops == []) = true := by kernel_rfl
theorem gsMeets_j7 : (Try.prog.stops == []) = true := by kernel_rfl
theorem gsMeets_j8 : (Rows.gossipMeetsRow.knobs == []) = true := by kernel_rfl
theorem gsMeets_j9 : (Try.prog.stopKnobs == []) = true := by kernel_rfl
theorem gsMeets_j10 : (Rows.gossipMeetsRow.inPlace == Try.prog.inPlace 3) = true := by kernel_rfl
theorem gsMeets_j11 : (Rows.gossipMeetsRow.unfollowed == Try.prog.unfollowed 3) = true := by kernel_rfl
theorem gsMeets_j12 : (Rows.gossipMeetsRow.recurses == Try.prog.recurses 3) = true := by kernel_rfl
theorem gsMeets_j13 : (Rows.gossipMeetsRow.named == Try.prog.varsNamed 3) = true := by kernel_rfl
theorem gsMeets_j14 : (Rows.gossipMeetsRow.maps == (Try.f3.params.toList ++ Rows.gossipMeetsSpec.plain.varTypes Try.prog).any (Try.prog.mapsRec ·)) = true := by kernel_rfl
theorem gsMeets_j15 : (Rows.gossipMeetsRow.ifaces == (Try.f3.params.toList ++ Rows.gossipMeetsSpec.plain.varTypes Try.prog).any (Try.prog.ifacesRec ·)) = true := by kernel_rfl
theorem gsMeets_j16 : (Rows.gossipMeetsRow.mapsOut == Try.prog.mapsAmong Try.f3.resultTypes.toList) = true := by kernel_rfl
theorem gsMeets_j17 : (Rows.gossipMeetsRow.loops == (Try.f3.params.toList ++ Rows.gossipMeetsSpec.plain.varTypes Try.prog).any (Try.prog.loopsFrom ·)) = true := by kernel_rfl
theorem gsMeets_j18 : (Rows.gossipMeetsRow.wideKeys == (Try.f3.params.toList ++ Rows.gossipMeetsSpec.plain.varTypes Try.prog ++ Try.f3.resultTypes.toList).any (Try.prog.wideKeysFrom ·)) = true := by kernel_rfl
theorem gsMeets_j19 : Rows.gossipMeetsSpec.vars.all (Try.prog.varReadable ·) = true := by kernel_rfl
theorem gsMeets_j20 : Try.f3.resultTypes.all (fun t => Try.prog.readableRec t && decide (t < Try.prog.types.size)) = true := by kernel_rfl
theorem gsMeets_j21 : (Rows.gossipMeetsRow.ifacesOut == Try.f3.resultTypes.toList.any (Try.prog.ifacesRec ·)) = true := by kernel_rfl
theorem gsMeets_j22 : (Rows.gossipMeetsRow.loopsOut == Try.f3.resultTypes.toList.any (Try.prog.loopsFrom ·)) = true := by kernel_rfl
theorem gsMeets_j23 : (Rows.gossipMeetsRow.plainKeys == Try.prog.plainKeys) = true := by kernel_rfl
theorem gsMeets_j24 : Rows.gossipMeetsRow.shortTexts.isNone = true := by kernel_rfl
theorem gsMeets_j25 : Try.prog.stopsHeard = true := by kernel_rfl
theorem gsMeets_j26 : Try.prog.mayEnter = true := by kernel_rfl
theorem gsMeets_j27 : (Rows.gossipMeetsRow.lifted == Try.prog.liftsFinal) = true := by kernel_rfl
theorem gsMeets_j28 : (Try.prog.make == some Rows.gossipMeetsRow.make) = true := by kernel_rfl
theorem gsMeets_j29 : (Rows.gossipMeetsRow.kinds == (if Rows.gossipMeetsRow.domain.isEmpty then [] else Try.f3.params.toList.map fun t => match Try.prog.underlying t with | some (.int k) => some k | _ => none)) = true := by kernel_rfl
theorem gsMeets_j30 : (Rows.gossipMeetsRow.pinned == Rows.gossipMeetsRow.pinnedBy) = true := by kernel_rfl
theorem gsMeets_j31 : (Rows.gossipMeetsRow.veiled == (Try.f3.params.toList ++ Rows.gossipMeetsSpec.plain.varTypes Try.prog ++ Try.f3.resultTypes.toList).any (Try.prog.veiledRec ·)) = true := by kernel_rfl
theorem gsMeets_j32 : Rows.gossipMeetsRow.veiledFits Try.prog Try.f3.params.toList (Try.f3.params.toList ++ Rows.gossipMeetsSpec.plain.varTypes Try.prog ++ Try.f3.resultTypes.toList) = true := by kernel_rfl
set_option maxRecDepth 100000 in
theorem gsMeets_facts : joinedFacts Try.prog 3 Try.f3 (Rows.gossipMeetsSpec) Rows.gossipMeetsRow = true := by
  unfold joinedFacts
  exact gsMeets_and (gsMeets_and (gsMeets_and (gsMeets_and (gsMeets_and (gsMeets_and (gsMeets_and (gsMeets_and (gsMeets_and (gsMeets_and (gsMeets_and (gsMeets_and (gsMeets_and (gsMeets_and (gsMeets_and (gsMeets_and (gsMeets_and (gsMeets_and (gsMeets_and (gsMeets_and (gsMeets_and (gsMeets_and (gsMeets_and (gsMeets_and (gsMeets_and (gsMeets_and (gsMeets_and (gsMeets_and (gsMeets_and (gsMeets_and (gsMeets_and gsMeets_j1 gsMeets_j2) gsMeets_j3) gsMeets_j4) gsMeets_j5) gsMeets_j6) gsMeets_j7) gsMeets_j8) gsMeets_j9) gsMeets_j10) gsMeets_j11) gsMeets_j12) gsMeets_j13) gsMeets_j14) gsMeets_j15) gsMeets_j16) gsMeets_j17) gsMeets_j18) gsMeets_j19) gsMeets_j20) gsMeets_j21) gsMeets_j22) gsMeets_j23) gsMeets_j24) gsMeets_j25) gsMeets_j26) gsMeets_j27) gsMeets_j28) gsMeets_j29) gsMeets_j30) gsMeets_j31) gsMeets_j32
end Go.Proofs.Ytmfaodapofamfaa

