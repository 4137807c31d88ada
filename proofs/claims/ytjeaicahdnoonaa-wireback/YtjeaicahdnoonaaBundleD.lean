/- Own texts, one behind the other (part 4). -/
import Derived.Test.YtjeaicahdnoonaaBundleC
import Derived.Test.YtjeaicahdnoonaaRows
import Derived.ProofKit
import Derived.JoinedOf
/- The closed facts of the row, one by one. -/
namespace Go.Proofs.Ytjeaicahdnoonaa
open Go.ChangeShapes Go.WideShapes Go.ChangeAt Go.RowKit
theorem wreBack_and {a b : Bool} (ha : a = true) (hb : b = true) : (a && b) = true := by rw [ha, hb]; rfl
theorem wreBack_j1 : Rows.wireBackRow.wf (OpenSpec.ofChange Rows.wireBackSpec) = true := by kernel_rfl
theorem wreBack_j2 : laidOutB Try.prog = true := by kernel_rfl
theorem wreBack_j3 : mapsRowed Try.prog = true := by kernel_rfl
theorem wreBack_j4 : Try.f4.params.all (Try.prog.readableRec ·) = true := by kernel_rfl
theorem wreBack_j5 : namedTie Try.prog Rows.wireBackRow.named Rows.wireBackSpec.vars = true := by kernel_rfl
theorem wreBack_j6 : (Rows.wireBackRow.stops == []) = true := by kernel_rfl
theorem wreBack_j7 : (Try.prog.stops == []) = true := by kernel_rfl
theorem wreBack_j8 : (Rows.wireBackRow.knobs == []) = true := by kernel_rfl
theorem wreBack_j9 : (Try.prog.stopKnobs == []) = true := by kernel_rfl
theorem wreBack_j10 : (Rows.wireBackRow.inPlace == Try.prog.inPlace 4) = true := by kernel_rfl
theorem wreBack_j11 : (Rows.wireBackRow.unfollowed == Try.prog.unfollowed 4) = true := by kernel_rfl
theorem wreBack_j12 : (Rows.wireBackRow.recurses == Try.prog.recurses 4) = true := by kernel_rfl
theorem wreBack_j13 : (Rows.wireBackRow.named == Try.prog.varsNamed 4) = true := by kernel_rfl
theorem wreBack_j14 : (Rows.wireBackRow.maps == (Try.f4.params.toList ++ Rows.wireBackSpec.plain.varTypes Try.prog).any (Try.prog.mapsRec ·)) = true := by kernel_rfl
theorem wreBack_j15 : (Rows.wireBackRow.ifaces == (Try.f4.params.toList ++ Rows.wireBackSpec.plain.varTypes Try.prog).any (Try.prog.ifacesRec ·)) = true := by kernel_rfl
theorem wreBack_j16 : (Rows.wireBackRow.mapsOut == Try.prog.mapsAmong Try.f4.resultTypes.toList) = true := by kernel_rfl
theorem wreBack_j17 : (Rows.wireBackRow.loops == (Try.f4.params.toList ++ Rows.wireBackSpec.plain.varTypes Try.prog).any (Try.prog.loopsFrom ·)) = true := by kernel_rfl
theorem wreBack_j18 : (Rows.wireBackRow.wideKeys == (Try.f4.params.toList ++ Rows.wireBackSpec.plain.varTypes Try.prog ++ Try.f4.resultTypes.toList).any (Try.prog.wideKeysFrom ·)) = true := by kernel_rfl
theorem wreBack_j19 : Rows.wireBackSpec.vars.all (Try.prog.varReadable ·) = true := by kernel_rfl
theorem wreBack_j20 : Try.f4.resultTypes.all (fun t => Try.prog.readableRec t && decide (t < Try.prog.types.size)) = true := by kernel_rfl
theorem wreBack_j21 : (Rows.wireBackRow.ifacesOut == Try.f4.resultTypes.toList.any (Try.prog.ifacesRec ·)) = true := by kernel_rfl
theorem wreBack_j22 : (Rows.wireBackRow.loopsOut == Try.f4.resultTypes.toList.any (Try.prog.loopsFrom ·)) = true := by kernel_rfl
theorem wreBack_j23 : (Rows.wireBackRow.plainKeys == Try.prog.plainKeys) = true := by kernel_rfl
theorem wreBack_j24 : Rows.wireBackRow.shortTexts.isNone = true := by kernel_rfl
theorem wreBack_j25 : Try.prog.stopsHeard = true := by kernel_rfl
theorem wreBack_j26 : Try.prog.mayEnter = true := by kernel_rfl
theorem wreBack_j27 : (Rows.wireBackRow.lifted == Try.prog.liftsFinal) = true := by kernel_rfl
theorem wreBack_j28 : (Try.prog.make == some Rows.wireBackRow.make) = true := by kernel_rfl
theorem wreBack_j29 : (Rows.wireBackRow.kinds == (if Rows.wireBackRow.domain.isEmpty then [] else Try.f4.params.toList.map fun t => match Try.prog.underlying t with | some (.int k) => some k | _ => none)) = true := by kernel_rfl
theorem wreBack_j30 : (Rows.wireBackRow.pinned == Rows.wireBackRow.pinnedBy) = true := by kernel_rfl
theorem wreBack_j31 : (Rows.wireBackRow.veiled == (Try.f4.params.toList ++ Rows.wireBackSpec.plain.varTypes Try.prog ++ Try.f4.resultTypes.toList).any (Try.prog.veiledRec ·)) = true := by kernel_rfl
theorem wreBack_j32 : Rows.wireBackRow.veiledFits Try.prog Try.f4.params.toList (Try.f4.params.toList ++ Rows.wireBackSpec.plain.varTypes Try.prog ++ Try.f4.resultTypes.toList) = true := by kernel_rfl
set_option maxRecDepth 100000 in
theorem wreBack_facts : joinedFacts Try.prog 4 Try.f4 (Rows.wireBackSpec) Rows.wireBackRow = true := by
  unfold joinedFacts
  exact wreBack_and (wreBack_and (wreBack_and (wreBack_and (wreBack_and (wreBack_and (wreBack_and (wreBack_and (wreBack_and (wreBack_and (wreBack_and (wreBack_and (wreBack_and (wreBack_and (wreBack_and (wreBack_and (wreBack_and (wreBack_and (wreBack_and (wreBack_and (wreBack_and (wreBack_and (wreBack_and (wreBack_and (wreBack_and (wreBack_and (wreBack_and (wreBack_and (wreBack_and (wreBack_and (wreBack_and wreBack_j1 wreBack_j2) wreBack_j3) wreBack_j4) wreBack_j5) wreBack_j6) wreBack_j7) wreBack_j8) wreBack_j9) wreBack_j10) wreBack_j11) wreBack_j12) wreBack_j13) wreBack_j14) wreBack_j15) wreBack_j16) wreBack_j17) wreBack_j18) wreBack_j19) wreBack_j20) wreBack_j21) wreBack_j22) wreBack_j23) wreBack_j24) wreBack_j25) wreBack_j26) wreBack_j27) wreBack_j28) wreBack_j29) wreBack_j30) wreBack_j31) wreBack_j32
end Go.Proofs.Ytjeaicahdnoonaa

